/-
  The statement FieldBounds, walked: no word runs over, the great number stands second.
-/
import Derived.Test.YtkmpholjlophpaaZLFBa
import Derived.Test.YtkmpholjlophpaaZFL
namespace Go.Proofs.Ytkmpholjlophpaa
open Go.RowKit
attribute [local go_sem ↓] loadNat_is loadArr_is loadWide_is loadArrW_is storeNat_is storeWide_is
attribute [local go_sem] loadNat loadArr loadWide loadArrW storeNat storeWide idxArr fold9 fold18 nw_size nw_elem pre_self pre_1 pre_2 pre_3 pre_4 pre_5 pre_6 pre_7 pre_8 pre_9 pre_10 pre_11 pre_12 pre_13 pre_14 pre_15 pre_16 pre_17 pre_18 pre_19 pre_20 pre_21 pre_22 pre_23 pre_24 pre_25 pre_26 pre_27 pre_28 pre_29 pre_30 pre_31 pre_32 pre_33 pre_34 pre_35 pre_36 pre_37 pre_38 pre_39 pre_40 gro_size gro_drew gro_drewN drew_gro drewN_gro gro_gro blk_gro frz_gro blk_drew frz_drew blk_drewN frz_drewN blk_alloc_at frz_alloc_at blk_alloc frz_alloc cell_gro frozen_gro cell_alloc_pre frozen_alloc_pre setCell_drewN alloc_drewN setBlk_drew setBlk_drewN setBlk_alloc_at setBlk_alloc setBlk_gro setCell_gro setCell_alloc_pre size_setBlk size_setCell
attribute [local go_sem] nw_ext9 nw_ext18 eqArr9 eqArr18

attribute [local go_sem] loadNat2 loadArr2 loadWide2 loadK_nw ppre_1 ppre_2 ppre_3 ppre_4 ppre_5 ppre_6 ppre_7 ppre_8 ppre_9 ppre_10 ppre_11 ppre_12 ppre_13 ppre_14 ppre_15 ppre_16 ppre_17 ppre_18 ppre_19 ppre_20

attribute [local go_sem ↓] loadC_is storeC_is Go.wp_at_zero Go.wp_at_succ
attribute [local go_sem] eqN_self loadC storeCv cvA_size frz_setBlk blk_setBlk setBlk_setBlk blk_other
set_option maxRecDepth 100000 in
set_option maxHeartbeats 4000000 in
theorem fbnd_01 (id : Int) (k more : Nat) (h1 : 1 ≤ k) (h2 : k ≤ 15) (hmo0 : more < 18446744073709551616) (ho : ¬ 18446744073709551616 ≤ wd (pN k) 0 + more % 4)
    (HO : ∀ w, Calls Try.prog 34 #[.int .i64 id] w fun e w' => ∃ p n q, e = .returned (.tuple #[.agg (cvA k p (dl (pN k)) n q), .agg (nw 9 (pN k))]) ∧ Sl w' p (pN k) ∧ Gr w w') (w : World) :
    Calls Try.prog 12 #[.int .i64 id, .int .u64 (more : Int), .bool true] w fun e w' => e = .returned (.bool true) ∧ Gr w w' := by
  have hB := pN_bd k h1 h2
  have hdl := pN_dl k h1 h2
  have hprm := prm_pN k h1 h2
  obtain ⟨m, hm⟩ : ∃ m, pN k = m := ⟨_, rfl⟩
  have FA := fun a b ha hb w => fAdd_ok k a b h1 h2 ha hb w
  have FSu := fun a b ha hb w => fSub_ok k a b h1 h2 ha hb w
  have FR := fun W hW w => fReduce_ok k W h1 h2 hW w
  have FM := fun a b ha hb w => fMul_ok k a b h1 h2 ha hb w
  have FI := fun a h0 ha hg => fInv_ok k a h1 h2 h0 ha hg
  have FZ := fun w => fInv_zero k h1 h2 w
  rw [hm] at hB hdl hprm FA FSu FR FM FI HO
  rw [hm] at ho
  have FAddR := fun a b ha hb h w => fAdd_range k a b h1 h2 ha hb h w
  have FSubR := fun a b ha hb h w => fSub_range k a b h1 h2 ha hb h w
  have FMulR := fun a b ha hb h w => fMul_range k a b h1 h2 ha hb h w
  have FInvR := fun a ha h w => fInv_range k a h1 h2 ha h w
  have FSqrtR := fun a ha h w => fSqrt_range k a h1 h2 ha h w
  rw [hm] at FAddR FSubR FMulR FInvR FSqrtR
  obtain ⟨r, hr⟩ : ∃ r, more % 4 = r := ⟨_, rfl⟩
  have hr4 : r < 4 := by omega
  have r1 : (more : Int) % 4 = (r : Int) := by omega
  have r2 : (more : Int).tmod 4 = (r : Int) := by rw [Int.tmod_eq_emod_of_nonneg (by omega)]; exact r1
  have r3 : IntKind.u64.wrap (r : Int) = (r : Int) := by rw [IntKind.wrap_u64]; omega
  have hp0 := wd_lt m 0
  have hmp : m = wd m 0 + m / pw 1 * pw 1 := by
    have := parts m 0
    rw [pw_zero, Nat.mod_one, Nat.mul_one, Nat.zero_add] at this
    exact this
  have hmo : m % 2 = 1 := hB.2.2
  have hp1 : 1 ≤ wd m 0 := by
    have e : pw 1 = 18446744073709551616 := pw_one
    rw [e] at hmp
    omega
  obtain ⟨X, hX⟩ : ∃ X, X = wd m 0 + r := ⟨_, rfl⟩
  have hX0 : X < 18446744073709551616 := by omega
  have hX1 : IntKind.u64.wrap (((wd m 0 : Nat) : Int) + (r : Int)) = (X : Int) := by rw [IntKind.wrap_u64]; omega
  have hX2 : ¬ (X : Int) < ((wd m 0 : Nat) : Int) := by omega
  have hX3 : decide ((X : Int) < ((wd m 0 : Nat) : Int)) = false := by simp; omega
  obtain ⟨Y, hY⟩ : ∃ Y, Y = X + m / pw 1 * pw 1 := ⟨_, rfl⟩
  have hY1 : (nw 9 m).setIfInBounds 0 (.int .u64 (X : Int)) = nw 9 Y := by
    rw [nw_set 9 m 0 X hX0, pw_zero, Nat.mod_one, Nat.mul_one, Nat.zero_add, hY]
  have hY2 : wd Y 0 = X := by
    rw [hY]; unfold wd
    rw [pw_zero, Nat.div_one, pw_one]
    omega
  obtain ⟨T, hBB⟩ : ∃ T, T = Y := ⟨_, rfl⟩
  have hBm : m ≤ T ∧ T < M := by
    exact ⟨by omega, by have := hB.2.1; have := m_four k h1 h2; rw [hm] at this; omega⟩
  obtain ⟨L, hL⟩ : ∃ L, L + 1 = m := ⟨m - 1, by omega⟩
  obtain ⟨F, hF⟩ : ∃ F, F + 1 = wd m 0 := ⟨wd m 0 - 1, by omega⟩
  have hL0 : IntKind.u64.wrap (((wd m 0 : Nat) : Int) - 1) = (F : Int) := by rw [IntKind.wrap_u64]; omega
  have hL1 : (nw 9 m).setIfInBounds 0 (.int .u64 (F : Int)) = nw 9 L := by
    rw [nw_set 9 m 0 _ (by omega), pw_zero, Nat.mod_one, Nat.mul_one, Nat.zero_add]
    refine congrArg (nw 9) (show F + m / pw 1 * pw 1 = L from ?_)
    omega
  have O1 : Hid (∀ w', Calls Try.prog 33 #[.int .u64 1] w' fun e w'' => e = .returned (.agg (nw 9 1)) ∧ Gr w' w'') := fun w => one_any 1 (by decide) w
  have O0 : Hid (∀ w', Calls Try.prog 33 #[.int .u64 0] w' fun e w'' => e = .returned (.agg (nw 9 0)) ∧ Gr w' w'') := fun w => one_any 0 (by decide) w
  have A1 : Hid (∀ w', Calls Try.prog 14 #[.int .i64 k, .agg (nw 9 1), .agg (nw 9 T)] w' fun e w'' => e = .returned (.tuple #[.agg (nw 9 0), .int .i64 501]) ∧ Gr w' w'') := fun w => FAddR 1 T (by omega) (by omega) (by omega) w
  have D1 : Hid (∀ w', Calls Try.prog 15 #[.int .i64 k, .agg (nw 9 1), .agg (nw 9 T)] w' fun e w'' => e = .returned (.tuple #[.agg (nw 9 0), .int .i64 501]) ∧ Gr w' w'') := fun w => FSubR 1 T (by omega) (by omega) (by omega) w
  have M1 : Hid (∀ w', Calls Try.prog 16 #[.int .i64 k, .agg (nw 9 1), .agg (nw 9 T)] w' fun e w'' => e = .returned (.tuple #[.agg (nw 9 0), .int .i64 501]) ∧ Gr w' w'') := fun w => FMulR 1 T (by omega) (by omega) (by omega) w
  have I1 : Hid (∀ w', Calls Try.prog 28 #[.int .i64 k, .agg (nw 9 T)] w' fun e w'' => e = .returned (.tuple #[.agg (nw 9 0), .int .i64 501]) ∧ Gr w' w'') := fun w => FInvR T (by omega) (by omega) w
  have S1 : Hid (∀ w', Calls Try.prog 29 #[.int .i64 k, .agg (nw 9 T)] w' fun e w'' => e = .returned (.tuple #[.agg (nw 9 0), .int .i64 501]) ∧ Gr w' w'') := fun w => FSqrtR T (by omega) (by omega) w
  have A2 : Hid (∀ w', Calls Try.prog 14 #[.int .i64 k, .agg (nw 9 L), .agg (nw 9 1)] w' fun e w'' => e = .returned (.tuple #[.agg (nw 9 0), .int .i64 0]) ∧ Gr w' w'') := fun w => by
    have := FA L 1 (by omega) (by omega) w
    rw [show L + 1 = m by omega, Nat.mod_self] at this
    exact this
  have M2 : Hid (∀ w', Calls Try.prog 16 #[.int .i64 k, .agg (nw 9 L), .agg (nw 9 L)] w' fun e w'' => e = .returned (.tuple #[.agg (nw 9 1), .int .i64 0]) ∧ Gr w' w'') := fun w => by
    have := FM L L (by omega) (by omega) w
    rw [show L = m - 1 by omega, neg_neg m (by omega), ← show L = m - 1 by omega] at this
    exact this
  have HO' : Hid (∀ w, Calls Try.prog 34 #[.int .i64 id] w fun e w' => ∃ p n q, e = .returned (.tuple #[.agg (cvA k p (dl m) n q), .agg (nw 9 m)]) ∧ Sl w' p m ∧ Gr w w') := HO
  have hmo1 : (more : Int) < 18446744073709551616 := by omega
  have hmo2 : (0 : Int) ≤ (more : Int) := by omega
  subst hBB
  clear HO FA FSu FR FM FI FZ hprm hB hdl hm h1 h2 FAddR FSubR FMulR FInvR FSqrtR hr hr4 hp0 hmp hmo hp1 hX hX0 hY hBm hL hF hmo0 ho
  go_enter Try.func12, Try.ntmps12
  go_upto_region 3 with (go_at_call 19; refine (awake5_any _).mono ?_; rintro e w' ⟨rfl, gaw, rfl⟩)
  refine gen_w (fun v => Hid (Gr w v)) (by repeat (first | exact Gr.refl _ | apply Gr.drewN | apply Gr.drew | apply Gr.alloc | apply Gr.gro)) ?_
  intro v0 HV
  go_cut [7, 8] from 29 to 33 (fun a0 a1 wx => ∃ (e7 e8 : Nat) (p : Option Addr) (n : Nat) (q : Nat → Option Addr × Nat × Nat), a0 = .pointer (some ⟨e7, 0, none⟩) ∧ a1 = .pointer (some ⟨e8, 0, none⟩) ∧ Hid (Gr w wx ∧ Cv wx e7 k p (dl m) n q ∧ Cl wx e8 m ∧ Sl wx p m))
  case first =>
    have G := HV.out
    go_wp2_with (go_at_call 34; refine (HO'.out _).mono ?_; rintro e W1 ⟨p, n, q, rfl, S1, G1⟩)
    go_meet
    exact ⟨_, _, p, n, q, rfl, rfl, G.trans (G1.trans (by repeat (first | exact Gr.refl _ | apply Gr.drewN | apply Gr.drew | apply Gr.alloc | apply Gr.gro))), ⟨by simp [go_sem], by simp [go_sem], by simp [go_sem]⟩, ⟨by simp [go_sem], by simp [go_sem], by simp [go_sem]⟩, S1.gr (by repeat (first | exact Gr.refl _ | apply Gr.drewN | apply Gr.drew | apply Gr.alloc | apply Gr.gro))⟩
  clear HV
  obtain ⟨e7, e8, p, n, q, rfl, rfl, HV⟩ := hcut
  have ⟨G, c_e7, c_e8, S_p⟩ := HV.out
  have ⟨hc_e7, fc_e7, pc_e7⟩ := c_e7
  have h0c_e7 := (c_e7).at0
  have h1c_e7 := (c_e7).at1
  have ⟨hc_e8, fc_e8, pc_e8⟩ := c_e8
  have hc8 : wc.cell? ⟨e8, 0, none⟩ = some (.int .u64 ((wd m 0 : Nat) : Int)) := by rw [cell_blk, hc_e8]; rfl
  go_upto_region 5 with fail
  go_upto_region 6 with fail
  clear hmo1 hmo2 r1 r2 r3 hX1 hY1
  go_upto_region 8 with fail
  go_upto_region 9 with fail
  go_upto_region 10 with fail
  obtain ⟨e9, he9⟩ : ∃ b, wc.heap.size = b := ⟨_, rfl⟩
  rw [he9]
  refine gen_w (fun v => Hid (Gr w v ∧ Cv v e7 k p (dl m) n q ∧ Cl v e8 m ∧ Cl v e9 T ∧ Cl v (e9 + 1) L ∧ Sl v p m)) ?_ ?_
  · subst he9
    exact ⟨G.trans (by repeat (first | exact Gr.refl _ | apply Gr.drewN | apply Gr.drew | apply Gr.alloc | apply Gr.gro)), c_e7.gr (by repeat (first | exact Gr.refl _ | apply Gr.drewN | apply Gr.drew | apply Gr.alloc | apply Gr.gro)), c_e8.gr (by repeat (first | exact Gr.refl _ | apply Gr.drewN | apply Gr.drew | apply Gr.alloc | apply Gr.gro)), ⟨by simp [go_sem], by simp [go_sem], by simp [go_sem]⟩, ⟨by simp [go_sem], by simp [go_sem], by simp [go_sem]⟩, S_p.gr (by repeat (first | exact Gr.refl _ | apply Gr.drewN | apply Gr.drew | apply Gr.alloc | apply Gr.gro))⟩
  intro v1 HV1
  clear HV hc8 G c_e7 c_e8 S_p hc_e7 fc_e7 pc_e7 h0c_e7 h1c_e7 hc_e8 fc_e8 pc_e8
  have HV := HV1
  clear HV1
  go_cut [11, 12] from 29 to 59 (fun a0 a1 wx => ∃ e11 e12 : Nat, a0 = .pointer (some ⟨e11, 0, none⟩) ∧ a1 = .pointer (some ⟨e12, 0, none⟩) ∧ Hid (w.heap.size ≤ e11 ∧ w.heap.size ≤ e12 ∧ e11 ≠ e12 ∧ e7 < e11 ∧ e8 < e11 ∧ e9 + 1 < e11 ∧ e7 < e12 ∧ e8 < e12 ∧ e9 + 1 < e12) ∧ Hid (Gr w wx ∧ Cv wx e7 k p (dl m) n q ∧ Cl wx e8 m ∧ Cl wx e9 T ∧ Cl wx (e9 + 1) L ∧ Sl wx p m ∧ Cl wx e11 T ∧ Cl wx e12 1))
  case first =>
    have ⟨G, c_e7, c_e8, c_e9, c__e9_1_, S_p⟩ := HV.out
    have ⟨hc_e7, fc_e7, pc_e7⟩ := c_e7
    have h0c_e7 := (c_e7).at0
    have h1c_e7 := (c_e7).at1
    have ⟨hc_e8, fc_e8, pc_e8⟩ := c_e8
    have ⟨hc_e9, fc_e9, pc_e9⟩ := c_e9
    have ⟨hc__e9_1_, fc__e9_1_, pc__e9_1_⟩ := c__e9_1_
    have k7 : e7 + 1 ≤ v1.heap.size := pc_e7
    have k8 : e8 + 1 ≤ v1.heap.size := pc_e8
    have k10 : e9 + 1 + 1 ≤ v1.heap.size := pc__e9_1_
    refine wp_region_mix (by kernel_rfl) (by kernel_rfl) (RG _ (fun i => match i with | 0 => some (.agg (nw 9 T)) | 1 => some (.agg (nw 9 1)) | _ => none) (fun i => match i with | 2 => some (nw 9 0) | 3 => some (nw 9 0) | _ => none) (fun i => match i with | 2 => some (4, nw 9 T) | 3 => some (5, nw 9 1) | _ => none)) (RG.start _ _ _ _ _ _) ?hs ?hf
    case hs =>
      intro listed vals a1 v2 i o hz hR hF ho hl hd
      have hks : ∀ (j k : Nat) (r : Array Value), (match j with | 2 => some (4, nw 9 T) | 3 => some (5, nw 9 1) | _ => (none : Option (Nat × Array Value))) = some (k, r) → (j = 2 ∧ k = 4) ∨ (j = 3 ∧ k = 5) := fun j k r h => by
        split at h <;> simp_all
      have Hc_e7 : blk v2 (e7) = cvA k p (dl m) n q := (blk_of _ _ _ (hR.1.below.block (e7) (c_e7.p))).trans (c_e7.h)
      have Hc_e8 : blk v2 (e8) = nw 9 m := (blk_of _ _ _ (hR.1.below.block (e8) (c_e8.p))).trans (c_e8.h)
      have Hc_e9 : blk v2 (e9) = nw 9 T := (blk_of _ _ _ (hR.1.below.block (e9) (c_e9.p))).trans (c_e9.h)
      have Hc__e9_1_ : blk v2 ((e9 + 1)) = nw 9 L := (blk_of _ _ _ (hR.1.below.block ((e9 + 1)) (c__e9_1_.p))).trans (c__e9_1_.h)
      have hi : i < 6 := by simpa using (Array.getElem?_eq_some_iff.1 ho).1
      have hil : i < listed.size := by rw [hz]; simpa using hi
      obtain rfl | rfl | rfl | rfl | rfl | rfl : i = 0 ∨ i = 1 ∨ i = 2 ∨ i = 3 ∨ i = 4 ∨ i = 5 := by omega
      · obtain rfl := Option.some.inj ho
        have f0 := hF.old (s := 9) (v := .pointer (some ⟨e9, 0, none⟩)) (by kernel_rfl) rfl
        exact wp_val (.agg (nw 9 T)) (by simp [go_sem, f0, Hc_e9]) ⟨_, rfl, RG.quiet 0 _ hil rfl rfl (fun j k r h => by have := hks j k r h; omega) (Gr.refl _) hR⟩
      · obtain rfl := Option.some.inj ho
        exact wp_ret (.agg (nw 9 1)) (by simp [go_sem]) (O1.out _) (fun w2 hg => ⟨_, rfl, RG.quiet 1 _ hil rfl rfl (fun j k r h => by have := hks j k r h; omega) hg hR⟩)
      · obtain rfl := Option.some.inj ho
        exact wp_val (.pointer (some ⟨v2.heap.size, 0, none⟩)) (w' := v2.alloc (.cells (nw 9 0) 25)) (by simp [go_sem]) ⟨_, rfl, RG.alloc 2 (nw 9 0) 25 hil hl rfl rfl (fun j k r h => by have := hks j k r h; omega) hR⟩
      · obtain rfl := Option.some.inj ho
        exact wp_val (.pointer (some ⟨v2.heap.size, 0, none⟩)) (w' := v2.alloc (.cells (nw 9 0) 25)) (by simp [go_sem]) ⟨_, rfl, RG.alloc 3 (nw 9 0) 25 hil hl rfl rfl (fun j k r h => by have := hks j k r h; omega) hR⟩
      · obtain rfl := Option.some.inj ho
        have l0 := hd ⟨2, .data⟩ (by simp) rfl
        have l1 := hd ⟨0, .data⟩ (by simp) rfl
        obtain ⟨B, h4, h5⟩ := hR.2.2.2
        obtain ⟨e1, e2, e3, e4, e5⟩ := h4 2 (nw 9 0) l0 rfl
        simp only [hl] at e5
        replace e5 : blk v2 (B 2) = nw 9 0 := e5
        have f0 := hF.at (s := 11) (i := 2) (by kernel_rfl) (by simp) l0
        rw [e1] at f0
        have f1 := hF.at (s := 58) (i := 0) (by kernel_rfl) (by simp) l1
        rw [hR.2.1 0 _ l1 rfl] at f1
        exact wp_skip (w' := setBlk v2 (B 2) (nw 9 T)) (by simp [go_sem, f0, f1, e4, e5]) ⟨undef, rfl, RG.store 4 2 (nw 9 0) (nw 9 T) (B 2) hil hl rfl rfl rfl l0 rfl (by rw [nw_size]; decide) e1 (fun k r h => by have := hks k _ r h; omega) hR⟩
      · obtain rfl := Option.some.inj ho
        have l0 := hd ⟨3, .data⟩ (by simp) rfl
        have l1 := hd ⟨1, .data⟩ (by simp) rfl
        obtain ⟨B, h4, h5⟩ := hR.2.2.2
        obtain ⟨e1, e2, e3, e4, e5⟩ := h4 3 (nw 9 0) l0 rfl
        simp only [hl] at e5
        replace e5 : blk v2 (B 3) = nw 9 0 := e5
        have f0 := hF.at (s := 12) (i := 3) (by kernel_rfl) (by simp) l0
        rw [e1] at f0
        have f1 := hF.at (s := 59) (i := 1) (by kernel_rfl) (by simp) l1
        rw [hR.2.1 1 _ l1 rfl] at f1
        exact wp_skip (w' := setBlk v2 (B 3) (nw 9 1)) (by simp [go_sem, f0, f1, e4, e5]) ⟨undef, rfl, RG.store 5 3 (nw 9 0) (nw 9 1) (B 3) hil hl rfl rfl rfl l0 rfl (by rw [nw_size]; decide) e1 (fun k r h => by have := hks k _ r h; omega) hR⟩
    case hf =>
      intro listed vals a1 v2 hall hR hF
      have Hc_e7 : blk v2 (e7) = cvA k p (dl m) n q := (blk_of _ _ _ (hR.1.below.block (e7) (c_e7.p))).trans (c_e7.h)
      have pHc_e7 : Pre (e7 + 1) v2.heap.size := Nat.le_trans (show e7 + 1 ≤ _ from c_e7.p) hR.1.below.size
      have Hc_e8 : blk v2 (e8) = nw 9 m := (blk_of _ _ _ (hR.1.below.block (e8) (c_e8.p))).trans (c_e8.h)
      have pHc_e8 : Pre (e8 + 1) v2.heap.size := Nat.le_trans (show e8 + 1 ≤ _ from c_e8.p) hR.1.below.size
      have Hc_e9 : blk v2 (e9) = nw 9 T := (blk_of _ _ _ (hR.1.below.block (e9) (c_e9.p))).trans (c_e9.h)
      have pHc_e9 : Pre (e9 + 1) v2.heap.size := Nat.le_trans (show e9 + 1 ≤ _ from c_e9.p) hR.1.below.size
      have Hc__e9_1_ : blk v2 ((e9 + 1)) = nw 9 L := (blk_of _ _ _ (hR.1.below.block ((e9 + 1)) (c__e9_1_.p))).trans (c__e9_1_.h)
      have pHc__e9_1_ : Pre ((e9 + 1) + 1) v2.heap.size := Nat.le_trans (show (e9 + 1) + 1 ≤ _ from c__e9_1_.p) hR.1.below.size
      have hV := hR.2.1
      obtain ⟨B, h4, h5⟩ := hR.2.2.2
      have x0 := hV 0 _ (hall 0 (by simp)) rfl
      have x1 := hV 1 _ (hall 1 (by simp)) rfl
      obtain ⟨x2, q2, p2, z2, y2⟩ := h4 2 _ (hall 2 (by simp)) rfl
      simp only [hall 4 (by simp), if_true] at y2
      replace p2 : Pre (B 2 + 1) v2.heap.size := p2
      replace y2 : blk v2 (B 2) = nw 9 T := y2
      obtain ⟨x3, q3, p3, z3, y3⟩ := h4 3 _ (hall 3 (by simp)) rfl
      simp only [hall 5 (by simp), if_true] at y3
      replace p3 : Pre (B 3 + 1) v2.heap.size := p3
      replace y3 : blk v2 (B 3) = nw 9 1 := y3
      have d2_3 : B 2 ≠ B 3 := fun e => absurd (h5 2 3 _ _ (hall 2 (by simp)) (hall 3 (by simp)) rfl rfl e) (by decide)
      have hb1 := hR.1
      rw [hF.final (by kernel_rfl) hall]
      simp only [putFrom, Act.put, List.setIfInBounds_toArray, List.set_cons_zero, List.set_cons_succ, x0, x1, x2, x3]
      generalize B 2 = b2 at *
      generalize B 3 = b3 at *
      clear hV h4 h5 hR hF hall x0 x1 x2 x3
      go_wp2_with fail
      go_meet
      exact ⟨b2, b3, rfl, rfl, ⟨by have := G.below.size; omega, by have := G.below.size; omega, d2_3, by omega, by omega, by omega, by omega, by omega, by omega⟩, G.trans hb1, c_e7.gr hb1, c_e8.gr hb1, c_e9.gr hb1, c__e9_1_.gr hb1, S_p.gr hb1, ⟨y2, z2, p2⟩, ⟨y3, z3, p3⟩⟩
  clear HV
  obtain ⟨e11, e12, rfl, rfl, HN, HV⟩ := hcut
  go_upto_region 12 with fail
  go_cut [61] from 62 to 62 (fun a0 wx => a0 = .agg (nw 9 1) ∧ Hid (Gr w wx ∧ Cv wx e7 k p (dl m) n q ∧ Cl wx e9 T ∧ Cl wx (e9 + 1) L ∧ Cl wx e11 1 ∧ Cl wx e12 T))
  case first =>
    have ⟨G, c7, c8, c9, c10, S_p, c11, c12⟩ := HV.out
    have ⟨l11, l12, n0, n1, n2, n3, n4, n5, n6⟩ := HN.out
    have ⟨h9, f9, p9⟩ := c9
    have ⟨h11, f11, p11⟩ := c11
    have ⟨h12, f12, p12⟩ := c12
    have m1 : ¬ e11 = e9 := by omega
    have m2 : ¬ e12 = e9 := by omega
    have m3 : ¬ e12 = e11 := by omega
    have m4 : ¬ e11 = e12 := by omega
    go_region_with (go_at_call 33; refine (O1.out _).mono ?_; rintro e w' ⟨rfl, gg, rfl⟩)
    all_goals
      go_wp2_with fail
      go_meet
      exact ⟨rfl, (gr_setNew (gr_setNew G l11) l12).trans ⟨_, rfl⟩, ((c7.other (by omega)).other (by omega)).gr ⟨_, rfl⟩, ((c9.other (by omega)).other (by omega)).gr ⟨_, rfl⟩, ((c10.other (by omega)).other (by omega)).gr ⟨_, rfl⟩, ((c11.set 1).other (by omega)).gr ⟨_, rfl⟩, ((c12.other (by omega)).set T).gr ⟨_, rfl⟩⟩
  clear HV
  obtain ⟨rfl, HV⟩ := hcut
  go_upto_region 13 with fail
  go_cut [13, 14] from 63 to 70 (fun a0 a1 wx => ∃ e13 : Nat, a0 = .pointer (some ⟨e13, 0, none⟩) ∧ a1 = .int .i64 501 ∧ Hid (Gr w wx ∧ Cv wx e7 k p (dl m) n q ∧ Cl wx e9 T ∧ Cl wx (e9 + 1) L ∧ Cl wx e11 1 ∧ Cl wx e12 T ∧ Cl wx e13 0))
  case first =>
    have ⟨G, c_e7, c_e9, c__e9_1_, c_e11, c_e12⟩ := HV.out
    have ⟨hc_e7, fc_e7, pc_e7⟩ := c_e7
    have h0c_e7 := (c_e7).at0
    have h1c_e7 := (c_e7).at1
    have ⟨hc_e9, fc_e9, pc_e9⟩ := c_e9
    have ⟨hc__e9_1_, fc__e9_1_, pc__e9_1_⟩ := c__e9_1_
    have ⟨hc_e11, fc_e11, pc_e11⟩ := c_e11
    have ⟨hc_e12, fc_e12, pc_e12⟩ := c_e12
    go_wp2_with (first
        | (go_at_call_of 14 ((#[.int .i64 k, .agg (nw 9 1), .agg (nw 9 T)] : Array Value)); refine (A1.out _).mono ?_; rintro e w' ⟨rfl, g1, rfl⟩)
        | (go_at_call 18; refine (num_any _ _).mono ?_; rintro e w' ⟨rfl, rfl⟩))
    go_meet
    exact ⟨_, rfl, rfl, G.trans (by repeat (first | exact Gr.refl _ | apply Gr.drewN | apply Gr.drew | apply Gr.alloc | apply Gr.gro)), c_e7.gr (by repeat (first | exact Gr.refl _ | apply Gr.drewN | apply Gr.drew | apply Gr.alloc | apply Gr.gro)), c_e9.gr (by repeat (first | exact Gr.refl _ | apply Gr.drewN | apply Gr.drew | apply Gr.alloc | apply Gr.gro)), c__e9_1_.gr (by repeat (first | exact Gr.refl _ | apply Gr.drewN | apply Gr.drew | apply Gr.alloc | apply Gr.gro)), c_e11.gr (by repeat (first | exact Gr.refl _ | apply Gr.drewN | apply Gr.drew | apply Gr.alloc | apply Gr.gro)), c_e12.gr (by repeat (first | exact Gr.refl _ | apply Gr.drewN | apply Gr.drew | apply Gr.alloc | apply Gr.gro)), ⟨by simp [go_sem], by simp [go_sem], by simp [go_sem]⟩⟩
  clear HV
  obtain ⟨e13, rfl, rfl, HV⟩ := hcut
  go_upto_region 14 with fail
  go_cut [15, 16] from 71 to 78 (fun a0 a1 wx => ∃ e15 : Nat, a0 = .pointer (some ⟨e15, 0, none⟩) ∧ a1 = .int .i64 501 ∧ Hid (Gr w wx ∧ Cv wx e7 k p (dl m) n q ∧ Cl wx e9 T ∧ Cl wx (e9 + 1) L ∧ Cl wx e11 1 ∧ Cl wx e12 T ∧ Cl wx e13 0 ∧ Cl wx e15 0))
  case first =>
    have ⟨G, c_e7, c_e9, c__e9_1_, c_e11, c_e12, c_e13⟩ := HV.out
    have ⟨hc_e7, fc_e7, pc_e7⟩ := c_e7
    have h0c_e7 := (c_e7).at0
    have h1c_e7 := (c_e7).at1
    have ⟨hc_e9, fc_e9, pc_e9⟩ := c_e9
    have ⟨hc__e9_1_, fc__e9_1_, pc__e9_1_⟩ := c__e9_1_
    have ⟨hc_e11, fc_e11, pc_e11⟩ := c_e11
    have ⟨hc_e12, fc_e12, pc_e12⟩ := c_e12
    have ⟨hc_e13, fc_e13, pc_e13⟩ := c_e13
    go_wp2_with (first
        | (go_at_call_of 15 ((#[.int .i64 k, .agg (nw 9 1), .agg (nw 9 T)] : Array Value)); refine (D1.out _).mono ?_; rintro e w' ⟨rfl, g2, rfl⟩)
        | (go_at_call 18; refine (num_any _ _).mono ?_; rintro e w' ⟨rfl, rfl⟩))
    go_meet
    exact ⟨_, rfl, rfl, G.trans (by repeat (first | exact Gr.refl _ | apply Gr.drewN | apply Gr.drew | apply Gr.alloc | apply Gr.gro)), c_e7.gr (by repeat (first | exact Gr.refl _ | apply Gr.drewN | apply Gr.drew | apply Gr.alloc | apply Gr.gro)), c_e9.gr (by repeat (first | exact Gr.refl _ | apply Gr.drewN | apply Gr.drew | apply Gr.alloc | apply Gr.gro)), c__e9_1_.gr (by repeat (first | exact Gr.refl _ | apply Gr.drewN | apply Gr.drew | apply Gr.alloc | apply Gr.gro)), c_e11.gr (by repeat (first | exact Gr.refl _ | apply Gr.drewN | apply Gr.drew | apply Gr.alloc | apply Gr.gro)), c_e12.gr (by repeat (first | exact Gr.refl _ | apply Gr.drewN | apply Gr.drew | apply Gr.alloc | apply Gr.gro)), c_e13.gr (by repeat (first | exact Gr.refl _ | apply Gr.drewN | apply Gr.drew | apply Gr.alloc | apply Gr.gro)), ⟨by simp [go_sem], by simp [go_sem], by simp [go_sem]⟩⟩
  clear HV
  obtain ⟨e15, rfl, rfl, HV⟩ := hcut
  go_upto_region 15 with fail
  go_cut [17, 18] from 79 to 86 (fun a0 a1 wx => ∃ e17 : Nat, a0 = .pointer (some ⟨e17, 0, none⟩) ∧ a1 = .int .i64 501 ∧ Hid (Gr w wx ∧ Cv wx e7 k p (dl m) n q ∧ Cl wx e9 T ∧ Cl wx (e9 + 1) L ∧ Cl wx e11 1 ∧ Cl wx e12 T ∧ Cl wx e13 0 ∧ Cl wx e15 0 ∧ Cl wx e17 0))
  case first =>
    have ⟨G, c_e7, c_e9, c__e9_1_, c_e11, c_e12, c_e13, c_e15⟩ := HV.out
    have ⟨hc_e7, fc_e7, pc_e7⟩ := c_e7
    have h0c_e7 := (c_e7).at0
    have h1c_e7 := (c_e7).at1
    have ⟨hc_e9, fc_e9, pc_e9⟩ := c_e9
    have ⟨hc__e9_1_, fc__e9_1_, pc__e9_1_⟩ := c__e9_1_
    have ⟨hc_e11, fc_e11, pc_e11⟩ := c_e11
    have ⟨hc_e12, fc_e12, pc_e12⟩ := c_e12
    have ⟨hc_e13, fc_e13, pc_e13⟩ := c_e13
    have ⟨hc_e15, fc_e15, pc_e15⟩ := c_e15
    go_wp2_with (first
        | (go_at_call_of 16 ((#[.int .i64 k, .agg (nw 9 1), .agg (nw 9 T)] : Array Value)); refine (M1.out _).mono ?_; rintro e w' ⟨rfl, g3, rfl⟩)
        | (go_at_call 18; refine (num_any _ _).mono ?_; rintro e w' ⟨rfl, rfl⟩))
    go_meet
    exact ⟨_, rfl, rfl, G.trans (by repeat (first | exact Gr.refl _ | apply Gr.drewN | apply Gr.drew | apply Gr.alloc | apply Gr.gro)), c_e7.gr (by repeat (first | exact Gr.refl _ | apply Gr.drewN | apply Gr.drew | apply Gr.alloc | apply Gr.gro)), c_e9.gr (by repeat (first | exact Gr.refl _ | apply Gr.drewN | apply Gr.drew | apply Gr.alloc | apply Gr.gro)), c__e9_1_.gr (by repeat (first | exact Gr.refl _ | apply Gr.drewN | apply Gr.drew | apply Gr.alloc | apply Gr.gro)), c_e11.gr (by repeat (first | exact Gr.refl _ | apply Gr.drewN | apply Gr.drew | apply Gr.alloc | apply Gr.gro)), c_e12.gr (by repeat (first | exact Gr.refl _ | apply Gr.drewN | apply Gr.drew | apply Gr.alloc | apply Gr.gro)), c_e13.gr (by repeat (first | exact Gr.refl _ | apply Gr.drewN | apply Gr.drew | apply Gr.alloc | apply Gr.gro)), c_e15.gr (by repeat (first | exact Gr.refl _ | apply Gr.drewN | apply Gr.drew | apply Gr.alloc | apply Gr.gro)), ⟨by simp [go_sem], by simp [go_sem], by simp [go_sem]⟩⟩
  clear HV
  obtain ⟨e17, rfl, rfl, HV⟩ := hcut
  go_upto_region 16 with fail
  go_cut [19, 20] from 87 to 93 (fun a0 a1 wx => ∃ e19 : Nat, a0 = .pointer (some ⟨e19, 0, none⟩) ∧ a1 = .int .i64 501 ∧ Hid (Gr w wx ∧ Cv wx e7 k p (dl m) n q ∧ Cl wx e9 T ∧ Cl wx (e9 + 1) L ∧ Cl wx e11 1 ∧ Cl wx e12 T ∧ Cl wx e13 0 ∧ Cl wx e15 0 ∧ Cl wx e17 0 ∧ Cl wx e19 0))
  case first =>
    have ⟨G, c_e7, c_e9, c__e9_1_, c_e11, c_e12, c_e13, c_e15, c_e17⟩ := HV.out
    have ⟨hc_e7, fc_e7, pc_e7⟩ := c_e7
    have h0c_e7 := (c_e7).at0
    have h1c_e7 := (c_e7).at1
    have ⟨hc_e9, fc_e9, pc_e9⟩ := c_e9
    have ⟨hc__e9_1_, fc__e9_1_, pc__e9_1_⟩ := c__e9_1_
    have ⟨hc_e11, fc_e11, pc_e11⟩ := c_e11
    have ⟨hc_e12, fc_e12, pc_e12⟩ := c_e12
    have ⟨hc_e13, fc_e13, pc_e13⟩ := c_e13
    have ⟨hc_e15, fc_e15, pc_e15⟩ := c_e15
    have ⟨hc_e17, fc_e17, pc_e17⟩ := c_e17
    go_wp2_with (first
        | (go_at_call_of 28 ((#[.int .i64 k, .agg (nw 9 T)] : Array Value)); refine (I1.out _).mono ?_; rintro e w' ⟨rfl, g4, rfl⟩)
        | (go_at_call 18; refine (num_any _ _).mono ?_; rintro e w' ⟨rfl, rfl⟩))
    go_meet
    exact ⟨_, rfl, rfl, G.trans (by repeat (first | exact Gr.refl _ | apply Gr.drewN | apply Gr.drew | apply Gr.alloc | apply Gr.gro)), c_e7.gr (by repeat (first | exact Gr.refl _ | apply Gr.drewN | apply Gr.drew | apply Gr.alloc | apply Gr.gro)), c_e9.gr (by repeat (first | exact Gr.refl _ | apply Gr.drewN | apply Gr.drew | apply Gr.alloc | apply Gr.gro)), c__e9_1_.gr (by repeat (first | exact Gr.refl _ | apply Gr.drewN | apply Gr.drew | apply Gr.alloc | apply Gr.gro)), c_e11.gr (by repeat (first | exact Gr.refl _ | apply Gr.drewN | apply Gr.drew | apply Gr.alloc | apply Gr.gro)), c_e12.gr (by repeat (first | exact Gr.refl _ | apply Gr.drewN | apply Gr.drew | apply Gr.alloc | apply Gr.gro)), c_e13.gr (by repeat (first | exact Gr.refl _ | apply Gr.drewN | apply Gr.drew | apply Gr.alloc | apply Gr.gro)), c_e15.gr (by repeat (first | exact Gr.refl _ | apply Gr.drewN | apply Gr.drew | apply Gr.alloc | apply Gr.gro)), c_e17.gr (by repeat (first | exact Gr.refl _ | apply Gr.drewN | apply Gr.drew | apply Gr.alloc | apply Gr.gro)), ⟨by simp [go_sem], by simp [go_sem], by simp [go_sem]⟩⟩
  clear HV
  obtain ⟨e19, rfl, rfl, HV⟩ := hcut
  go_upto_region 17 with fail
  go_cut [21, 22] from 94 to 100 (fun a0 a1 wx => ∃ e21 : Nat, a0 = .pointer (some ⟨e21, 0, none⟩) ∧ a1 = .int .i64 501 ∧ Hid (Gr w wx ∧ Cv wx e7 k p (dl m) n q ∧ Cl wx e9 T ∧ Cl wx (e9 + 1) L ∧ Cl wx e11 1 ∧ Cl wx e12 T ∧ Cl wx e13 0 ∧ Cl wx e15 0 ∧ Cl wx e17 0 ∧ Cl wx e19 0 ∧ Cl wx e21 0))
  case first =>
    have ⟨G, c_e7, c_e9, c__e9_1_, c_e11, c_e12, c_e13, c_e15, c_e17, c_e19⟩ := HV.out
    have ⟨hc_e7, fc_e7, pc_e7⟩ := c_e7
    have h0c_e7 := (c_e7).at0
    have h1c_e7 := (c_e7).at1
    have ⟨hc_e9, fc_e9, pc_e9⟩ := c_e9
    have ⟨hc__e9_1_, fc__e9_1_, pc__e9_1_⟩ := c__e9_1_
    have ⟨hc_e11, fc_e11, pc_e11⟩ := c_e11
    have ⟨hc_e12, fc_e12, pc_e12⟩ := c_e12
    have ⟨hc_e13, fc_e13, pc_e13⟩ := c_e13
    have ⟨hc_e15, fc_e15, pc_e15⟩ := c_e15
    have ⟨hc_e17, fc_e17, pc_e17⟩ := c_e17
    have ⟨hc_e19, fc_e19, pc_e19⟩ := c_e19
    go_wp2_with (first
        | (go_at_call_of 29 ((#[.int .i64 k, .agg (nw 9 T)] : Array Value)); refine (S1.out _).mono ?_; rintro e w' ⟨rfl, g5, rfl⟩)
        | (go_at_call 18; refine (num_any _ _).mono ?_; rintro e w' ⟨rfl, rfl⟩))
    go_meet
    exact ⟨_, rfl, rfl, G.trans (by repeat (first | exact Gr.refl _ | apply Gr.drewN | apply Gr.drew | apply Gr.alloc | apply Gr.gro)), c_e7.gr (by repeat (first | exact Gr.refl _ | apply Gr.drewN | apply Gr.drew | apply Gr.alloc | apply Gr.gro)), c_e9.gr (by repeat (first | exact Gr.refl _ | apply Gr.drewN | apply Gr.drew | apply Gr.alloc | apply Gr.gro)), c__e9_1_.gr (by repeat (first | exact Gr.refl _ | apply Gr.drewN | apply Gr.drew | apply Gr.alloc | apply Gr.gro)), c_e11.gr (by repeat (first | exact Gr.refl _ | apply Gr.drewN | apply Gr.drew | apply Gr.alloc | apply Gr.gro)), c_e12.gr (by repeat (first | exact Gr.refl _ | apply Gr.drewN | apply Gr.drew | apply Gr.alloc | apply Gr.gro)), c_e13.gr (by repeat (first | exact Gr.refl _ | apply Gr.drewN | apply Gr.drew | apply Gr.alloc | apply Gr.gro)), c_e15.gr (by repeat (first | exact Gr.refl _ | apply Gr.drewN | apply Gr.drew | apply Gr.alloc | apply Gr.gro)), c_e17.gr (by repeat (first | exact Gr.refl _ | apply Gr.drewN | apply Gr.drew | apply Gr.alloc | apply Gr.gro)), c_e19.gr (by repeat (first | exact Gr.refl _ | apply Gr.drewN | apply Gr.drew | apply Gr.alloc | apply Gr.gro)), ⟨by simp [go_sem], by simp [go_sem], by simp [go_sem]⟩⟩
  clear HV
  obtain ⟨e21, rfl, rfl, HV⟩ := hcut
  go_upto_region 18 with fail
  go_cut [23, 24] from 101 to 108 (fun a0 a1 wx => ∃ e23 : Nat, a0 = .pointer (some ⟨e23, 0, none⟩) ∧ a1 = .int .i64 0 ∧ Hid (Gr w wx ∧ Cv wx e7 k p (dl m) n q ∧ Cl wx e9 T ∧ Cl wx (e9 + 1) L ∧ Cl wx e11 1 ∧ Cl wx e12 T ∧ Cl wx e13 0 ∧ Cl wx e15 0 ∧ Cl wx e17 0 ∧ Cl wx e19 0 ∧ Cl wx e21 0 ∧ Cl wx e23 0))
  case first =>
    have ⟨G, c_e7, c_e9, c__e9_1_, c_e11, c_e12, c_e13, c_e15, c_e17, c_e19, c_e21⟩ := HV.out
    have ⟨hc_e7, fc_e7, pc_e7⟩ := c_e7
    have h0c_e7 := (c_e7).at0
    have h1c_e7 := (c_e7).at1
    have ⟨hc_e9, fc_e9, pc_e9⟩ := c_e9
    have ⟨hc__e9_1_, fc__e9_1_, pc__e9_1_⟩ := c__e9_1_
    have ⟨hc_e11, fc_e11, pc_e11⟩ := c_e11
    have ⟨hc_e12, fc_e12, pc_e12⟩ := c_e12
    have ⟨hc_e13, fc_e13, pc_e13⟩ := c_e13
    have ⟨hc_e15, fc_e15, pc_e15⟩ := c_e15
    have ⟨hc_e17, fc_e17, pc_e17⟩ := c_e17
    have ⟨hc_e19, fc_e19, pc_e19⟩ := c_e19
    have ⟨hc_e21, fc_e21, pc_e21⟩ := c_e21
    refine wp_region_mix (by kernel_rfl) (by kernel_rfl) (RG _ (fun i => match i with | 0 => some (.pointer (some ⟨e7, 0, none⟩)) | 1 => some (.int .i64 k) | 2 => some (.agg (nw 9 L)) | 3 => some (.agg (nw 9 1)) | 4 => some (.tuple #[.agg (nw 9 0), .int .i64 0]) | 5 => some (.tuple #[.agg (nw 9 0), .int .i64 0]) | 6 => some (.agg (nw 9 0)) | 7 => some (.int .i64 0) | 10 => some (.int .i64 0) | _ => none) (fun i => match i with | 8 => some (nw 9 0) | _ => none) (fun i => match i with | 8 => some (9, nw 9 0) | _ => none)) (RG.start _ _ _ _ _ _) ?hs ?hf
    case hs =>
      intro listed vals a1 v1 i o hz hR hF ho hl hd
      have hks : ∀ (j k : Nat) (r : Array Value), (match j with | 8 => some (9, nw 9 0) | _ => (none : Option (Nat × Array Value))) = some (k, r) → (j = 8 ∧ k = 9) := fun j k r h => by
        split at h <;> simp_all
      have Hc_e7 : blk v1 (e7) = cvA k p (dl m) n q := (blk_of _ _ _ (hR.1.below.block (e7) (c_e7.p))).trans (c_e7.h)
      have Hc_e9 : blk v1 (e9) = nw 9 T := (blk_of _ _ _ (hR.1.below.block (e9) (c_e9.p))).trans (c_e9.h)
      have Hc__e9_1_ : blk v1 ((e9 + 1)) = nw 9 L := (blk_of _ _ _ (hR.1.below.block ((e9 + 1)) (c__e9_1_.p))).trans (c__e9_1_.h)
      have Hc_e11 : blk v1 (e11) = nw 9 1 := (blk_of _ _ _ (hR.1.below.block (e11) (c_e11.p))).trans (c_e11.h)
      have Hc_e12 : blk v1 (e12) = nw 9 T := (blk_of _ _ _ (hR.1.below.block (e12) (c_e12.p))).trans (c_e12.h)
      have Hc_e13 : blk v1 (e13) = nw 9 0 := (blk_of _ _ _ (hR.1.below.block (e13) (c_e13.p))).trans (c_e13.h)
      have Hc_e15 : blk v1 (e15) = nw 9 0 := (blk_of _ _ _ (hR.1.below.block (e15) (c_e15.p))).trans (c_e15.h)
      have Hc_e17 : blk v1 (e17) = nw 9 0 := (blk_of _ _ _ (hR.1.below.block (e17) (c_e17.p))).trans (c_e17.h)
      have Hc_e19 : blk v1 (e19) = nw 9 0 := (blk_of _ _ _ (hR.1.below.block (e19) (c_e19.p))).trans (c_e19.h)
      have Hc_e21 : blk v1 (e21) = nw 9 0 := (blk_of _ _ _ (hR.1.below.block (e21) (c_e21.p))).trans (c_e21.h)
      have hi : i < 11 := by simpa using (Array.getElem?_eq_some_iff.1 ho).1
      have hil : i < listed.size := by rw [hz]; simpa using hi
      obtain rfl | rfl | rfl | rfl | rfl | rfl | rfl | rfl | rfl | rfl | rfl : i = 0 ∨ i = 1 ∨ i = 2 ∨ i = 3 ∨ i = 4 ∨ i = 5 ∨ i = 6 ∨ i = 7 ∨ i = 8 ∨ i = 9 ∨ i = 10 := by omega
      · obtain rfl := Option.some.inj ho
        have f0 := hF.old (s := 7) (v := .pointer (some ⟨e7, 0, none⟩)) (by kernel_rfl) rfl
        exact wp_val (.pointer (some ⟨e7, 0, none⟩)) (by simp [go_sem, f0]) ⟨_, rfl, RG.quiet 0 _ hil rfl rfl (fun j k r h => by have := hks j k r h; omega) (Gr.refl _) hR⟩
      · obtain rfl := Option.some.inj ho
        have l0 := hd ⟨0, .data⟩ (by simp) rfl
        have f0 := hF.at (s := 102) (i := 0) (by kernel_rfl) (by simp) l0
        rw [hR.2.1 0 _ l0 rfl] at f0
        exact wp_val (.int .i64 k) (by simp [go_sem, f0, cell_blk, Hc_e7, cvA_0]) ⟨_, rfl, RG.quiet 1 _ hil rfl rfl (fun j k r h => by have := hks j k r h; omega) (Gr.refl _) hR⟩
      · obtain rfl := Option.some.inj ho
        have f0 := hF.old (s := 10) (v := .pointer (some ⟨(e9 + 1), 0, none⟩)) (by kernel_rfl) rfl
        exact wp_val (.agg (nw 9 L)) (by simp [go_sem, f0, Hc__e9_1_]) ⟨_, rfl, RG.quiet 2 _ hil rfl rfl (fun j k r h => by have := hks j k r h; omega) (Gr.refl _) hR⟩
      · obtain rfl := Option.some.inj ho
        exact wp_ret (.agg (nw 9 1)) (by simp [go_sem]) (O1.out _) (fun w2 hg => ⟨_, rfl, RG.quiet 3 _ hil rfl rfl (fun j k r h => by have := hks j k r h; omega) hg hR⟩)
      · obtain rfl := Option.some.inj ho
        have l0 := hd ⟨1, .data⟩ (by simp) rfl
        have f0 := hF.at (s := 103) (i := 1) (by kernel_rfl) (by simp) l0
        rw [hR.2.1 1 _ l0 rfl] at f0
        have l1 := hd ⟨2, .data⟩ (by simp) rfl
        have f1 := hF.at (s := 104) (i := 2) (by kernel_rfl) (by simp) l1
        rw [hR.2.1 2 _ l1 rfl] at f1
        have l2 := hd ⟨3, .data⟩ (by simp) rfl
        have f2 := hF.at (s := 105) (i := 3) (by kernel_rfl) (by simp) l2
        rw [hR.2.1 3 _ l2 rfl] at f2
        exact wp_ret (.tuple #[.agg (nw 9 0), .int .i64 0]) (by simp [go_sem, f0, f1, f2]) (A2.out _) (fun w2 hg => ⟨_, rfl, RG.quiet 4 _ hil rfl rfl (fun j k r h => by have := hks j k r h; omega) hg hR⟩)
      · obtain rfl := Option.some.inj ho
        have l0 := hd ⟨4, .data⟩ (by simp) rfl
        have f0 := hF.at (s := 106) (i := 4) (by kernel_rfl) (by simp) l0
        rw [hR.2.1 4 _ l0 rfl] at f0
        exact wp_val (.tuple #[.agg (nw 9 0), .int .i64 0]) (by simp [go_sem, f0]) ⟨_, rfl, RG.quiet 5 _ hil rfl rfl (fun j k r h => by have := hks j k r h; omega) (Gr.refl _) hR⟩
      · obtain rfl := Option.some.inj ho
        have l0 := hd ⟨5, .data⟩ (by simp) rfl
        have f0 := hF.at (s := 101) (i := 5) (by kernel_rfl) (by simp) l0
        rw [hR.2.1 5 _ l0 rfl] at f0
        exact wp_val (.agg (nw 9 0)) (by simp [go_sem, f0]) ⟨_, rfl, RG.quiet 6 _ hil rfl rfl (fun j k r h => by have := hks j k r h; omega) (Gr.refl _) hR⟩
      · obtain rfl := Option.some.inj ho
        have l0 := hd ⟨5, .data⟩ (by simp) rfl
        have f0 := hF.at (s := 101) (i := 5) (by kernel_rfl) (by simp) l0
        rw [hR.2.1 5 _ l0 rfl] at f0
        exact wp_val (.int .i64 0) (by simp [go_sem, f0]) ⟨_, rfl, RG.quiet 7 _ hil rfl rfl (fun j k r h => by have := hks j k r h; omega) (Gr.refl _) hR⟩
      · obtain rfl := Option.some.inj ho
        exact wp_val (.pointer (some ⟨v1.heap.size, 0, none⟩)) (w' := v1.alloc (.cells (nw 9 0) 25)) (by simp [go_sem]) ⟨_, rfl, RG.alloc 8 (nw 9 0) 25 hil hl rfl rfl (fun j k r h => by have := hks j k r h; omega) hR⟩
      · obtain rfl := Option.some.inj ho
        have l0 := hd ⟨8, .data⟩ (by simp) rfl
        have l1 := hd ⟨6, .data⟩ (by simp) rfl
        obtain ⟨B, h4, h5⟩ := hR.2.2.2
        obtain ⟨e1, e2, e3, e4, e5⟩ := h4 8 (nw 9 0) l0 rfl
        simp only [hl] at e5
        replace e5 : blk v1 (B 8) = nw 9 0 := e5
        have f0 := hF.at (s := 23) (i := 8) (by kernel_rfl) (by simp) l0
        rw [e1] at f0
        have f1 := hF.at (s := 107) (i := 6) (by kernel_rfl) (by simp) l1
        rw [hR.2.1 6 _ l1 rfl] at f1
        exact wp_skip (w' := setBlk v1 (B 8) (nw 9 0)) (by simp [go_sem, f0, f1, e4, e5]) ⟨undef, rfl, RG.store 9 8 (nw 9 0) (nw 9 0) (B 8) hil hl rfl rfl rfl l0 rfl (by rw [nw_size]; decide) e1 (fun k r h => by have := hks k _ r h; omega) hR⟩
      · obtain rfl := Option.some.inj ho
        have l0 := hd ⟨7, .data⟩ (by simp) rfl
        have f0 := hF.at (s := 108) (i := 7) (by kernel_rfl) (by simp) l0
        rw [hR.2.1 7 _ l0 rfl] at f0
        exact wp_val (.int .i64 0) (by simp [go_sem, f0]) ⟨_, rfl, RG.quiet 10 _ hil rfl rfl (fun j k r h => by have := hks j k r h; omega) (Gr.refl _) hR⟩
    case hf =>
      intro listed vals a1 v1 hall hR hF
      have Hc_e7 : blk v1 (e7) = cvA k p (dl m) n q := (blk_of _ _ _ (hR.1.below.block (e7) (c_e7.p))).trans (c_e7.h)
      have pHc_e7 : Pre (e7 + 1) v1.heap.size := Nat.le_trans (show e7 + 1 ≤ _ from c_e7.p) hR.1.below.size
      have Hc_e9 : blk v1 (e9) = nw 9 T := (blk_of _ _ _ (hR.1.below.block (e9) (c_e9.p))).trans (c_e9.h)
      have pHc_e9 : Pre (e9 + 1) v1.heap.size := Nat.le_trans (show e9 + 1 ≤ _ from c_e9.p) hR.1.below.size
      have Hc__e9_1_ : blk v1 ((e9 + 1)) = nw 9 L := (blk_of _ _ _ (hR.1.below.block ((e9 + 1)) (c__e9_1_.p))).trans (c__e9_1_.h)
      have pHc__e9_1_ : Pre ((e9 + 1) + 1) v1.heap.size := Nat.le_trans (show (e9 + 1) + 1 ≤ _ from c__e9_1_.p) hR.1.below.size
      have Hc_e11 : blk v1 (e11) = nw 9 1 := (blk_of _ _ _ (hR.1.below.block (e11) (c_e11.p))).trans (c_e11.h)
      have pHc_e11 : Pre (e11 + 1) v1.heap.size := Nat.le_trans (show e11 + 1 ≤ _ from c_e11.p) hR.1.below.size
      have Hc_e12 : blk v1 (e12) = nw 9 T := (blk_of _ _ _ (hR.1.below.block (e12) (c_e12.p))).trans (c_e12.h)
      have pHc_e12 : Pre (e12 + 1) v1.heap.size := Nat.le_trans (show e12 + 1 ≤ _ from c_e12.p) hR.1.below.size
      have Hc_e13 : blk v1 (e13) = nw 9 0 := (blk_of _ _ _ (hR.1.below.block (e13) (c_e13.p))).trans (c_e13.h)
      have pHc_e13 : Pre (e13 + 1) v1.heap.size := Nat.le_trans (show e13 + 1 ≤ _ from c_e13.p) hR.1.below.size
      have Hc_e15 : blk v1 (e15) = nw 9 0 := (blk_of _ _ _ (hR.1.below.block (e15) (c_e15.p))).trans (c_e15.h)
      have pHc_e15 : Pre (e15 + 1) v1.heap.size := Nat.le_trans (show e15 + 1 ≤ _ from c_e15.p) hR.1.below.size
      have Hc_e17 : blk v1 (e17) = nw 9 0 := (blk_of _ _ _ (hR.1.below.block (e17) (c_e17.p))).trans (c_e17.h)
      have pHc_e17 : Pre (e17 + 1) v1.heap.size := Nat.le_trans (show e17 + 1 ≤ _ from c_e17.p) hR.1.below.size
      have Hc_e19 : blk v1 (e19) = nw 9 0 := (blk_of _ _ _ (hR.1.below.block (e19) (c_e19.p))).trans (c_e19.h)
      have pHc_e19 : Pre (e19 + 1) v1.heap.size := Nat.le_trans (show e19 + 1 ≤ _ from c_e19.p) hR.1.below.size
      have Hc_e21 : blk v1 (e21) = nw 9 0 := (blk_of _ _ _ (hR.1.below.block (e21) (c_e21.p))).trans (c_e21.h)
      have pHc_e21 : Pre (e21 + 1) v1.heap.size := Nat.le_trans (show e21 + 1 ≤ _ from c_e21.p) hR.1.below.size
      have hV := hR.2.1
      obtain ⟨B, h4, h5⟩ := hR.2.2.2
      have x0 := hV 0 _ (hall 0 (by simp)) rfl
      have x1 := hV 1 _ (hall 1 (by simp)) rfl
      have x2 := hV 2 _ (hall 2 (by simp)) rfl
      have x3 := hV 3 _ (hall 3 (by simp)) rfl
      have x4 := hV 4 _ (hall 4 (by simp)) rfl
      have x5 := hV 5 _ (hall 5 (by simp)) rfl
      have x6 := hV 6 _ (hall 6 (by simp)) rfl
      have x7 := hV 7 _ (hall 7 (by simp)) rfl
      have x10 := hV 10 _ (hall 10 (by simp)) rfl
      obtain ⟨x8, q8, p8, z8, y8⟩ := h4 8 _ (hall 8 (by simp)) rfl
      simp only [hall 9 (by simp), if_true] at y8
      replace p8 : Pre (B 8 + 1) v1.heap.size := p8
      replace y8 : blk v1 (B 8) = nw 9 0 := y8
      have hb1 := hR.1
      rw [hF.final (by kernel_rfl) hall]
      simp only [putFrom, Act.put, List.setIfInBounds_toArray, List.set_cons_zero, List.set_cons_succ, x0, x1, x2, x3, x4, x5, x6, x7, x10, x8]
      generalize B 8 = b8 at *
      clear hV h4 h5 hR hF hall x0 x1 x2 x3 x4 x5 x6 x7 x10 x8
      go_wp2_with fail
      go_meet
      exact ⟨b8, rfl, rfl, G.trans hb1, c_e7.gr hb1, c_e9.gr hb1, c__e9_1_.gr hb1, c_e11.gr hb1, c_e12.gr hb1, c_e13.gr hb1, c_e15.gr hb1, c_e17.gr hb1, c_e19.gr hb1, c_e21.gr hb1, ⟨y8, z8, p8⟩⟩
  clear HV
  obtain ⟨e23, rfl, rfl, HV⟩ := hcut
  go_upto_region 19 with fail
  go_cut [25, 26] from 109 to 116 (fun a0 a1 wx => ∃ e25 : Nat, a0 = .pointer (some ⟨e25, 0, none⟩) ∧ a1 = .int .i64 0 ∧ Hid (Gr w wx ∧ Cv wx e7 k p (dl m) n q ∧ Cl wx e9 T ∧ Cl wx (e9 + 1) L ∧ Cl wx e11 1 ∧ Cl wx e12 T ∧ Cl wx e13 0 ∧ Cl wx e15 0 ∧ Cl wx e17 0 ∧ Cl wx e19 0 ∧ Cl wx e21 0 ∧ Cl wx e23 0 ∧ Cl wx e25 1))
  case first =>
    have ⟨G, c_e7, c_e9, c__e9_1_, c_e11, c_e12, c_e13, c_e15, c_e17, c_e19, c_e21, c_e23⟩ := HV.out
    have ⟨hc_e7, fc_e7, pc_e7⟩ := c_e7
    have h0c_e7 := (c_e7).at0
    have h1c_e7 := (c_e7).at1
    have ⟨hc_e9, fc_e9, pc_e9⟩ := c_e9
    have ⟨hc__e9_1_, fc__e9_1_, pc__e9_1_⟩ := c__e9_1_
    have ⟨hc_e11, fc_e11, pc_e11⟩ := c_e11
    have ⟨hc_e12, fc_e12, pc_e12⟩ := c_e12
    have ⟨hc_e13, fc_e13, pc_e13⟩ := c_e13
    have ⟨hc_e15, fc_e15, pc_e15⟩ := c_e15
    have ⟨hc_e17, fc_e17, pc_e17⟩ := c_e17
    have ⟨hc_e19, fc_e19, pc_e19⟩ := c_e19
    have ⟨hc_e21, fc_e21, pc_e21⟩ := c_e21
    have ⟨hc_e23, fc_e23, pc_e23⟩ := c_e23
    go_wp2_with (first
        | (go_at_call_of 16 ((#[.int .i64 k, .agg (nw 9 L), .agg (nw 9 L)] : Array Value)); refine (M2.out _).mono ?_; rintro e w' ⟨rfl, g6, rfl⟩)
        | (go_at_call 18; refine (num_any _ _).mono ?_; rintro e w' ⟨rfl, rfl⟩))
    go_meet
    exact ⟨_, rfl, rfl, G.trans (by repeat (first | exact Gr.refl _ | apply Gr.drewN | apply Gr.drew | apply Gr.alloc | apply Gr.gro)), c_e7.gr (by repeat (first | exact Gr.refl _ | apply Gr.drewN | apply Gr.drew | apply Gr.alloc | apply Gr.gro)), c_e9.gr (by repeat (first | exact Gr.refl _ | apply Gr.drewN | apply Gr.drew | apply Gr.alloc | apply Gr.gro)), c__e9_1_.gr (by repeat (first | exact Gr.refl _ | apply Gr.drewN | apply Gr.drew | apply Gr.alloc | apply Gr.gro)), c_e11.gr (by repeat (first | exact Gr.refl _ | apply Gr.drewN | apply Gr.drew | apply Gr.alloc | apply Gr.gro)), c_e12.gr (by repeat (first | exact Gr.refl _ | apply Gr.drewN | apply Gr.drew | apply Gr.alloc | apply Gr.gro)), c_e13.gr (by repeat (first | exact Gr.refl _ | apply Gr.drewN | apply Gr.drew | apply Gr.alloc | apply Gr.gro)), c_e15.gr (by repeat (first | exact Gr.refl _ | apply Gr.drewN | apply Gr.drew | apply Gr.alloc | apply Gr.gro)), c_e17.gr (by repeat (first | exact Gr.refl _ | apply Gr.drewN | apply Gr.drew | apply Gr.alloc | apply Gr.gro)), c_e19.gr (by repeat (first | exact Gr.refl _ | apply Gr.drewN | apply Gr.drew | apply Gr.alloc | apply Gr.gro)), c_e21.gr (by repeat (first | exact Gr.refl _ | apply Gr.drewN | apply Gr.drew | apply Gr.alloc | apply Gr.gro)), c_e23.gr (by repeat (first | exact Gr.refl _ | apply Gr.drewN | apply Gr.drew | apply Gr.alloc | apply Gr.gro)), ⟨by simp [go_sem], by simp [go_sem], by simp [go_sem]⟩⟩
  clear HV
  obtain ⟨e25, rfl, rfl, HV⟩ := hcut
  go_upto_region 20 with fail
  obtain ⟨G, c_e7, c_e9, c__e9_1_, c_e11, c_e12, c_e13, c_e15, c_e17, c_e19, c_e21, c_e23, c_e25⟩ := HV.out
  refine wp_region_pred (by kernel_rfl) (by kernel_rfl) [.c (.int .i64 501), .c (.int .i64 501), .c (.bool true), .c (.bool true), .c (.int .i64 501), .c (.int .i64 501), .c (.bool true), .c (.bool true), .c (.bool true), .c (.int .i64 501), .c (.int .i64 501), .c (.bool true), .c (.bool true), .c (.bool true), .c (.int .i64 501), .c (.int .i64 501), .c (.bool true), .c (.bool true), .c (.bool true), .c (.int .i64 501), .c (.int .i64 501), .c (.bool true), .c (.bool true), .c (.bool true), .c (.int .i64 0), .c (.int .i64 0), .c (.bool true), .c (.bool true), .c (.bool true), .c (.agg (nw 9 0)), .c (.agg (nw 9 0)), .c (.bool true), .c (.bool true), .c (.bool true), .c (.int .i64 0), .c (.int .i64 0), .c (.bool true), .c (.bool true), .c (.bool true), .c (.agg (nw 9 1)), .c (.agg (nw 9 1)), .c (.bool true), .c (.bool true), .c (.bool true)] ?hs ?hf
  case hs =>
    intro listed vals a1 v i o hg hR hF ho hd
    have Hc_e7 : blk v e7 = cvA k p (dl m) n q := (hg.blk _ c_e7.p).trans c_e7.h
    have Hc_e9 : blk v e9 = nw 9 T := (hg.blk _ c_e9.p).trans c_e9.h
    have Hc__e9_1_ : blk v (e9 + 1) = nw 9 L := (hg.blk _ c__e9_1_.p).trans c__e9_1_.h
    have Hc_e11 : blk v e11 = nw 9 1 := (hg.blk _ c_e11.p).trans c_e11.h
    have Hc_e12 : blk v e12 = nw 9 T := (hg.blk _ c_e12.p).trans c_e12.h
    have Hc_e13 : blk v e13 = nw 9 0 := (hg.blk _ c_e13.p).trans c_e13.h
    have Hc_e15 : blk v e15 = nw 9 0 := (hg.blk _ c_e15.p).trans c_e15.h
    have Hc_e17 : blk v e17 = nw 9 0 := (hg.blk _ c_e17.p).trans c_e17.h
    have Hc_e19 : blk v e19 = nw 9 0 := (hg.blk _ c_e19.p).trans c_e19.h
    have Hc_e21 : blk v e21 = nw 9 0 := (hg.blk _ c_e21.p).trans c_e21.h
    have Hc_e23 : blk v e23 = nw 9 0 := (hg.blk _ c_e23.p).trans c_e23.h
    have Hc_e25 : blk v e25 = nw 9 1 := (hg.blk _ c_e25.p).trans c_e25.h
    have hi : i < 44 := by simpa using (Array.getElem?_eq_some_iff.1 ho).1
    obtain rfl | rfl | rfl | rfl | rfl | rfl | rfl | rfl | rfl | rfl | rfl | rfl | rfl | rfl | rfl | rfl | rfl | rfl | rfl | rfl | rfl | rfl | rfl | rfl | rfl | rfl | rfl | rfl | rfl | rfl | rfl | rfl | rfl | rfl | rfl | rfl | rfl | rfl | rfl | rfl | rfl | rfl | rfl | rfl : i = 0 ∨ i = 1 ∨ i = 2 ∨ i = 3 ∨ i = 4 ∨ i = 5 ∨ i = 6 ∨ i = 7 ∨ i = 8 ∨ i = 9 ∨ i = 10 ∨ i = 11 ∨ i = 12 ∨ i = 13 ∨ i = 14 ∨ i = 15 ∨ i = 16 ∨ i = 17 ∨ i = 18 ∨ i = 19 ∨ i = 20 ∨ i = 21 ∨ i = 22 ∨ i = 23 ∨ i = 24 ∨ i = 25 ∨ i = 26 ∨ i = 27 ∨ i = 28 ∨ i = 29 ∨ i = 30 ∨ i = 31 ∨ i = 32 ∨ i = 33 ∨ i = 34 ∨ i = 35 ∨ i = 36 ∨ i = 37 ∨ i = 38 ∨ i = 39 ∨ i = 40 ∨ i = 41 ∨ i = 42 ∨ i = 43 := by omega
    · obtain rfl := Option.some.inj ho
      have f0 := hF.old (s := 14) (v := .int .i64 501) (by kernel_rfl) rfl
      refine Or.inl ⟨wanted_no rfl, ?_⟩
      exact wp_val (.int .i64 501) (by simp [go_sem, f0]) ⟨_, rfl, Gr.refl _, rfl⟩
    · obtain rfl := Option.some.inj ho
      have l0 := on_of hd 0 (by kernel_rfl)
      have f0 := hF.at (s := 117) (i := 0) (by kernel_rfl) (by simp) l0
      rw [show vals 0 = .int .i64 501 from hR 0 l0] at f0
      refine Or.inl ⟨wanted_no rfl, ?_⟩
      exact wp_ret (.int .i64 501) (by simp [go_sem, f0]) (num5_gr _ _) (fun w2 hg2 => ⟨_, rfl, hg2, rfl⟩)
    · obtain rfl := Option.some.inj ho
      have l0 := on_of hd 1 (by kernel_rfl)
      have f0 := hF.at (s := 118) (i := 1) (by kernel_rfl) (by simp) l0
      rw [show vals 1 = .int .i64 501 from hR 1 l0] at f0
      refine Or.inl ⟨wanted_no rfl, ?_⟩
      exact wp_val (.bool true) (by simp [go_sem, f0]) ⟨_, rfl, Gr.refl _, rfl⟩
    · obtain rfl := Option.some.inj ho
      have l0 := on_of hd 2 (by kernel_rfl)
      have f0 := hF.at (s := 119) (i := 2) (by kernel_rfl) (by simp) l0
      rw [show vals 2 = .bool true from hR 2 l0] at f0
      refine Or.inl ⟨wanted_no rfl, ?_⟩
      exact wp_val (.bool true) (by simp [go_sem, f0]) ⟨_, rfl, Gr.refl _, rfl⟩
    · obtain rfl := Option.some.inj ho
      have lg := on_of hd 3 (by kernel_rfl)
      have fg := hF.at (s := 120) (i := 3) (by kernel_rfl) (by simp) lg
      rw [show vals 3 = .bool true from hR 3 lg] at fg
      have f0 := hF.old (s := 16) (v := .int .i64 501) (by kernel_rfl) rfl
      refine Or.inl ⟨wanted_at (j := 3) (s := 120) rfl rfl rfl fg, ?_⟩
      exact wp_val (.int .i64 501) (by simp [go_sem, f0]) ⟨_, rfl, Gr.refl _, rfl⟩
    · obtain rfl := Option.some.inj ho
      have lg := on_of hd 3 (by kernel_rfl)
      have fg := hF.at (s := 120) (i := 3) (by kernel_rfl) (by simp) lg
      rw [show vals 3 = .bool true from hR 3 lg] at fg
      have l0 := on_of hd 4 (by kernel_rfl)
      have f0 := hF.at (s := 121) (i := 4) (by kernel_rfl) (by simp) l0
      rw [show vals 4 = .int .i64 501 from hR 4 l0] at f0
      refine Or.inl ⟨wanted_at (j := 3) (s := 120) rfl rfl rfl fg, ?_⟩
      exact wp_ret (.int .i64 501) (by simp [go_sem, f0]) (num5_gr _ _) (fun w2 hg2 => ⟨_, rfl, hg2, rfl⟩)
    · obtain rfl := Option.some.inj ho
      have lg := on_of hd 3 (by kernel_rfl)
      have fg := hF.at (s := 120) (i := 3) (by kernel_rfl) (by simp) lg
      rw [show vals 3 = .bool true from hR 3 lg] at fg
      have l0 := on_of hd 5 (by kernel_rfl)
      have f0 := hF.at (s := 122) (i := 5) (by kernel_rfl) (by simp) l0
      rw [show vals 5 = .int .i64 501 from hR 5 l0] at f0
      refine Or.inl ⟨wanted_at (j := 3) (s := 120) rfl rfl rfl fg, ?_⟩
      exact wp_val (.bool true) (by simp [go_sem, f0]) ⟨_, rfl, Gr.refl _, rfl⟩
    · obtain rfl := Option.some.inj ho
      have l0 := on_of hd 3 (by kernel_rfl)
      have f0 := hF.at (s := 120) (i := 3) (by kernel_rfl) (by simp) l0
      rw [show vals 3 = .bool true from hR 3 l0] at f0
      have l1 := on_of hd 6 (by kernel_rfl)
      have f1 := hF.at (s := 123) (i := 6) (by kernel_rfl) (by simp) l1
      rw [show vals 6 = .bool true from hR 6 l1] at f1
      refine Or.inl ⟨wanted_no rfl, ?_⟩
      exact wp_val (.bool true) (by simp [go_sem, f0, f1]) ⟨_, rfl, Gr.refl _, rfl⟩
    · obtain rfl := Option.some.inj ho
      have l0 := on_of hd 7 (by kernel_rfl)
      have f0 := hF.at (s := 124) (i := 7) (by kernel_rfl) (by simp) l0
      rw [show vals 7 = .bool true from hR 7 l0] at f0
      refine Or.inl ⟨wanted_no rfl, ?_⟩
      exact wp_val (.bool true) (by simp [go_sem, f0]) ⟨_, rfl, Gr.refl _, rfl⟩
    · obtain rfl := Option.some.inj ho
      have lg := on_of hd 8 (by kernel_rfl)
      have fg := hF.at (s := 125) (i := 8) (by kernel_rfl) (by simp) lg
      rw [show vals 8 = .bool true from hR 8 lg] at fg
      have f0 := hF.old (s := 18) (v := .int .i64 501) (by kernel_rfl) rfl
      refine Or.inl ⟨wanted_at (j := 8) (s := 125) rfl rfl rfl fg, ?_⟩
      exact wp_val (.int .i64 501) (by simp [go_sem, f0]) ⟨_, rfl, Gr.refl _, rfl⟩
    · obtain rfl := Option.some.inj ho
      have lg := on_of hd 8 (by kernel_rfl)
      have fg := hF.at (s := 125) (i := 8) (by kernel_rfl) (by simp) lg
      rw [show vals 8 = .bool true from hR 8 lg] at fg
      have l0 := on_of hd 9 (by kernel_rfl)
      have f0 := hF.at (s := 126) (i := 9) (by kernel_rfl) (by simp) l0
      rw [show vals 9 = .int .i64 501 from hR 9 l0] at f0
      refine Or.inl ⟨wanted_at (j := 8) (s := 125) rfl rfl rfl fg, ?_⟩
      exact wp_ret (.int .i64 501) (by simp [go_sem, f0]) (num5_gr _ _) (fun w2 hg2 => ⟨_, rfl, hg2, rfl⟩)
    · obtain rfl := Option.some.inj ho
      have lg := on_of hd 8 (by kernel_rfl)
      have fg := hF.at (s := 125) (i := 8) (by kernel_rfl) (by simp) lg
      rw [show vals 8 = .bool true from hR 8 lg] at fg
      have l0 := on_of hd 10 (by kernel_rfl)
      have f0 := hF.at (s := 127) (i := 10) (by kernel_rfl) (by simp) l0
      rw [show vals 10 = .int .i64 501 from hR 10 l0] at f0
      refine Or.inl ⟨wanted_at (j := 8) (s := 125) rfl rfl rfl fg, ?_⟩
      exact wp_val (.bool true) (by simp [go_sem, f0]) ⟨_, rfl, Gr.refl _, rfl⟩
    · obtain rfl := Option.some.inj ho
      have l0 := on_of hd 8 (by kernel_rfl)
      have f0 := hF.at (s := 125) (i := 8) (by kernel_rfl) (by simp) l0
      rw [show vals 8 = .bool true from hR 8 l0] at f0
      have l1 := on_of hd 11 (by kernel_rfl)
      have f1 := hF.at (s := 128) (i := 11) (by kernel_rfl) (by simp) l1
      rw [show vals 11 = .bool true from hR 11 l1] at f1
      refine Or.inl ⟨wanted_no rfl, ?_⟩
      exact wp_val (.bool true) (by simp [go_sem, f0, f1]) ⟨_, rfl, Gr.refl _, rfl⟩
    · obtain rfl := Option.some.inj ho
      have l0 := on_of hd 12 (by kernel_rfl)
      have f0 := hF.at (s := 129) (i := 12) (by kernel_rfl) (by simp) l0
      rw [show vals 12 = .bool true from hR 12 l0] at f0
      refine Or.inl ⟨wanted_no rfl, ?_⟩
      exact wp_val (.bool true) (by simp [go_sem, f0]) ⟨_, rfl, Gr.refl _, rfl⟩
    · obtain rfl := Option.some.inj ho
      have lg := on_of hd 13 (by kernel_rfl)
      have fg := hF.at (s := 130) (i := 13) (by kernel_rfl) (by simp) lg
      rw [show vals 13 = .bool true from hR 13 lg] at fg
      have f0 := hF.old (s := 20) (v := .int .i64 501) (by kernel_rfl) rfl
      refine Or.inl ⟨wanted_at (j := 13) (s := 130) rfl rfl rfl fg, ?_⟩
      exact wp_val (.int .i64 501) (by simp [go_sem, f0]) ⟨_, rfl, Gr.refl _, rfl⟩
    · obtain rfl := Option.some.inj ho
      have lg := on_of hd 13 (by kernel_rfl)
      have fg := hF.at (s := 130) (i := 13) (by kernel_rfl) (by simp) lg
      rw [show vals 13 = .bool true from hR 13 lg] at fg
      have l0 := on_of hd 14 (by kernel_rfl)
      have f0 := hF.at (s := 131) (i := 14) (by kernel_rfl) (by simp) l0
      rw [show vals 14 = .int .i64 501 from hR 14 l0] at f0
      refine Or.inl ⟨wanted_at (j := 13) (s := 130) rfl rfl rfl fg, ?_⟩
      exact wp_ret (.int .i64 501) (by simp [go_sem, f0]) (num5_gr _ _) (fun w2 hg2 => ⟨_, rfl, hg2, rfl⟩)
    · obtain rfl := Option.some.inj ho
      have lg := on_of hd 13 (by kernel_rfl)
      have fg := hF.at (s := 130) (i := 13) (by kernel_rfl) (by simp) lg
      rw [show vals 13 = .bool true from hR 13 lg] at fg
      have l0 := on_of hd 15 (by kernel_rfl)
      have f0 := hF.at (s := 132) (i := 15) (by kernel_rfl) (by simp) l0
      rw [show vals 15 = .int .i64 501 from hR 15 l0] at f0
      refine Or.inl ⟨wanted_at (j := 13) (s := 130) rfl rfl rfl fg, ?_⟩
      exact wp_val (.bool true) (by simp [go_sem, f0]) ⟨_, rfl, Gr.refl _, rfl⟩
    · obtain rfl := Option.some.inj ho
      have l0 := on_of hd 13 (by kernel_rfl)
      have f0 := hF.at (s := 130) (i := 13) (by kernel_rfl) (by simp) l0
      rw [show vals 13 = .bool true from hR 13 l0] at f0
      have l1 := on_of hd 16 (by kernel_rfl)
      have f1 := hF.at (s := 133) (i := 16) (by kernel_rfl) (by simp) l1
      rw [show vals 16 = .bool true from hR 16 l1] at f1
      refine Or.inl ⟨wanted_no rfl, ?_⟩
      exact wp_val (.bool true) (by simp [go_sem, f0, f1]) ⟨_, rfl, Gr.refl _, rfl⟩
    · obtain rfl := Option.some.inj ho
      have l0 := on_of hd 17 (by kernel_rfl)
      have f0 := hF.at (s := 134) (i := 17) (by kernel_rfl) (by simp) l0
      rw [show vals 17 = .bool true from hR 17 l0] at f0
      refine Or.inl ⟨wanted_no rfl, ?_⟩
      exact wp_val (.bool true) (by simp [go_sem, f0]) ⟨_, rfl, Gr.refl _, rfl⟩
    · obtain rfl := Option.some.inj ho
      have lg := on_of hd 18 (by kernel_rfl)
      have fg := hF.at (s := 135) (i := 18) (by kernel_rfl) (by simp) lg
      rw [show vals 18 = .bool true from hR 18 lg] at fg
      have f0 := hF.old (s := 22) (v := .int .i64 501) (by kernel_rfl) rfl
      refine Or.inl ⟨wanted_at (j := 18) (s := 135) rfl rfl rfl fg, ?_⟩
      exact wp_val (.int .i64 501) (by simp [go_sem, f0]) ⟨_, rfl, Gr.refl _, rfl⟩
    · obtain rfl := Option.some.inj ho
      have lg := on_of hd 18 (by kernel_rfl)
      have fg := hF.at (s := 135) (i := 18) (by kernel_rfl) (by simp) lg
      rw [show vals 18 = .bool true from hR 18 lg] at fg
      have l0 := on_of hd 19 (by kernel_rfl)
      have f0 := hF.at (s := 136) (i := 19) (by kernel_rfl) (by simp) l0
      rw [show vals 19 = .int .i64 501 from hR 19 l0] at f0
      refine Or.inl ⟨wanted_at (j := 18) (s := 135) rfl rfl rfl fg, ?_⟩
      exact wp_ret (.int .i64 501) (by simp [go_sem, f0]) (num5_gr _ _) (fun w2 hg2 => ⟨_, rfl, hg2, rfl⟩)
    · obtain rfl := Option.some.inj ho
      have lg := on_of hd 18 (by kernel_rfl)
      have fg := hF.at (s := 135) (i := 18) (by kernel_rfl) (by simp) lg
      rw [show vals 18 = .bool true from hR 18 lg] at fg
      have l0 := on_of hd 20 (by kernel_rfl)
      have f0 := hF.at (s := 137) (i := 20) (by kernel_rfl) (by simp) l0
      rw [show vals 20 = .int .i64 501 from hR 20 l0] at f0
      refine Or.inl ⟨wanted_at (j := 18) (s := 135) rfl rfl rfl fg, ?_⟩
      exact wp_val (.bool true) (by simp [go_sem, f0]) ⟨_, rfl, Gr.refl _, rfl⟩
    · obtain rfl := Option.some.inj ho
      have l0 := on_of hd 18 (by kernel_rfl)
      have f0 := hF.at (s := 135) (i := 18) (by kernel_rfl) (by simp) l0
      rw [show vals 18 = .bool true from hR 18 l0] at f0
      have l1 := on_of hd 21 (by kernel_rfl)
      have f1 := hF.at (s := 138) (i := 21) (by kernel_rfl) (by simp) l1
      rw [show vals 21 = .bool true from hR 21 l1] at f1
      refine Or.inl ⟨wanted_no rfl, ?_⟩
      exact wp_val (.bool true) (by simp [go_sem, f0, f1]) ⟨_, rfl, Gr.refl _, rfl⟩
    · obtain rfl := Option.some.inj ho
      have l0 := on_of hd 22 (by kernel_rfl)
      have f0 := hF.at (s := 139) (i := 22) (by kernel_rfl) (by simp) l0
      rw [show vals 22 = .bool true from hR 22 l0] at f0
      refine Or.inl ⟨wanted_no rfl, ?_⟩
      exact wp_val (.bool true) (by simp [go_sem, f0]) ⟨_, rfl, Gr.refl _, rfl⟩
    · obtain rfl := Option.some.inj ho
      have lg := on_of hd 23 (by kernel_rfl)
      have fg := hF.at (s := 140) (i := 23) (by kernel_rfl) (by simp) lg
      rw [show vals 23 = .bool true from hR 23 lg] at fg
      have f0 := hF.old (s := 24) (v := .int .i64 0) (by kernel_rfl) rfl
      refine Or.inl ⟨wanted_at (j := 23) (s := 140) rfl rfl rfl fg, ?_⟩
      exact wp_val (.int .i64 0) (by simp [go_sem, f0]) ⟨_, rfl, Gr.refl _, rfl⟩
    · obtain rfl := Option.some.inj ho
      have lg := on_of hd 23 (by kernel_rfl)
      have fg := hF.at (s := 140) (i := 23) (by kernel_rfl) (by simp) lg
      rw [show vals 23 = .bool true from hR 23 lg] at fg
      have l0 := on_of hd 24 (by kernel_rfl)
      have f0 := hF.at (s := 141) (i := 24) (by kernel_rfl) (by simp) l0
      rw [show vals 24 = .int .i64 0 from hR 24 l0] at f0
      refine Or.inl ⟨wanted_at (j := 23) (s := 140) rfl rfl rfl fg, ?_⟩
      exact wp_ret (.int .i64 0) (by simp [go_sem, f0]) (num5_gr _ _) (fun w2 hg2 => ⟨_, rfl, hg2, rfl⟩)
    · obtain rfl := Option.some.inj ho
      have lg := on_of hd 23 (by kernel_rfl)
      have fg := hF.at (s := 140) (i := 23) (by kernel_rfl) (by simp) lg
      rw [show vals 23 = .bool true from hR 23 lg] at fg
      have l0 := on_of hd 25 (by kernel_rfl)
      have f0 := hF.at (s := 142) (i := 25) (by kernel_rfl) (by simp) l0
      rw [show vals 25 = .int .i64 0 from hR 25 l0] at f0
      refine Or.inl ⟨wanted_at (j := 23) (s := 140) rfl rfl rfl fg, ?_⟩
      exact wp_val (.bool true) (by simp [go_sem, f0]) ⟨_, rfl, Gr.refl _, rfl⟩
    · obtain rfl := Option.some.inj ho
      have l0 := on_of hd 23 (by kernel_rfl)
      have f0 := hF.at (s := 140) (i := 23) (by kernel_rfl) (by simp) l0
      rw [show vals 23 = .bool true from hR 23 l0] at f0
      have l1 := on_of hd 26 (by kernel_rfl)
      have f1 := hF.at (s := 143) (i := 26) (by kernel_rfl) (by simp) l1
      rw [show vals 26 = .bool true from hR 26 l1] at f1
      refine Or.inl ⟨wanted_no rfl, ?_⟩
      exact wp_val (.bool true) (by simp [go_sem, f0, f1]) ⟨_, rfl, Gr.refl _, rfl⟩
    · obtain rfl := Option.some.inj ho
      have l0 := on_of hd 27 (by kernel_rfl)
      have f0 := hF.at (s := 144) (i := 27) (by kernel_rfl) (by simp) l0
      rw [show vals 27 = .bool true from hR 27 l0] at f0
      refine Or.inl ⟨wanted_no rfl, ?_⟩
      exact wp_val (.bool true) (by simp [go_sem, f0]) ⟨_, rfl, Gr.refl _, rfl⟩
    · obtain rfl := Option.some.inj ho
      have lg := on_of hd 28 (by kernel_rfl)
      have fg := hF.at (s := 145) (i := 28) (by kernel_rfl) (by simp) lg
      rw [show vals 28 = .bool true from hR 28 lg] at fg
      have f0 := hF.old (s := 23) (v := .pointer (some ⟨e23, 0, none⟩)) (by kernel_rfl) rfl
      refine Or.inl ⟨wanted_at (j := 28) (s := 145) rfl rfl rfl fg, ?_⟩
      exact wp_val (.agg (nw 9 0)) (by simp [go_sem, f0, Hc_e23]) ⟨_, rfl, Gr.refl _, rfl⟩
    · obtain rfl := Option.some.inj ho
      have lg := on_of hd 28 (by kernel_rfl)
      have fg := hF.at (s := 145) (i := 28) (by kernel_rfl) (by simp) lg
      rw [show vals 28 = .bool true from hR 28 lg] at fg
      refine Or.inl ⟨wanted_at (j := 28) (s := 145) rfl rfl rfl fg, ?_⟩
      exact wp_ret (.agg (nw 9 0)) (by simp [go_sem]) (O0.out _) (fun w2 hg2 => ⟨_, rfl, hg2, rfl⟩)
    · obtain rfl := Option.some.inj ho
      have lg := on_of hd 28 (by kernel_rfl)
      have fg := hF.at (s := 145) (i := 28) (by kernel_rfl) (by simp) lg
      rw [show vals 28 = .bool true from hR 28 lg] at fg
      have l0 := on_of hd 29 (by kernel_rfl)
      have f0 := hF.at (s := 146) (i := 29) (by kernel_rfl) (by simp) l0
      rw [show vals 29 = .agg (nw 9 0) from hR 29 l0] at f0
      have l1 := on_of hd 30 (by kernel_rfl)
      have f1 := hF.at (s := 147) (i := 30) (by kernel_rfl) (by simp) l1
      rw [show vals 30 = .agg (nw 9 0) from hR 30 l1] at f1
      refine Or.inl ⟨wanted_at (j := 28) (s := 145) rfl rfl rfl fg, ?_⟩
      exact wp_val (.bool true) (by simp [go_sem, f0, f1]) ⟨_, rfl, Gr.refl _, rfl⟩
    · obtain rfl := Option.some.inj ho
      have l0 := on_of hd 28 (by kernel_rfl)
      have f0 := hF.at (s := 145) (i := 28) (by kernel_rfl) (by simp) l0
      rw [show vals 28 = .bool true from hR 28 l0] at f0
      have l1 := on_of hd 31 (by kernel_rfl)
      have f1 := hF.at (s := 148) (i := 31) (by kernel_rfl) (by simp) l1
      rw [show vals 31 = .bool true from hR 31 l1] at f1
      refine Or.inl ⟨wanted_no rfl, ?_⟩
      exact wp_val (.bool true) (by simp [go_sem, f0, f1]) ⟨_, rfl, Gr.refl _, rfl⟩
    · obtain rfl := Option.some.inj ho
      have l0 := on_of hd 32 (by kernel_rfl)
      have f0 := hF.at (s := 149) (i := 32) (by kernel_rfl) (by simp) l0
      rw [show vals 32 = .bool true from hR 32 l0] at f0
      refine Or.inl ⟨wanted_no rfl, ?_⟩
      exact wp_val (.bool true) (by simp [go_sem, f0]) ⟨_, rfl, Gr.refl _, rfl⟩
    · obtain rfl := Option.some.inj ho
      have lg := on_of hd 33 (by kernel_rfl)
      have fg := hF.at (s := 150) (i := 33) (by kernel_rfl) (by simp) lg
      rw [show vals 33 = .bool true from hR 33 lg] at fg
      have f0 := hF.old (s := 26) (v := .int .i64 0) (by kernel_rfl) rfl
      refine Or.inl ⟨wanted_at (j := 33) (s := 150) rfl rfl rfl fg, ?_⟩
      exact wp_val (.int .i64 0) (by simp [go_sem, f0]) ⟨_, rfl, Gr.refl _, rfl⟩
    · obtain rfl := Option.some.inj ho
      have lg := on_of hd 33 (by kernel_rfl)
      have fg := hF.at (s := 150) (i := 33) (by kernel_rfl) (by simp) lg
      rw [show vals 33 = .bool true from hR 33 lg] at fg
      have l0 := on_of hd 34 (by kernel_rfl)
      have f0 := hF.at (s := 151) (i := 34) (by kernel_rfl) (by simp) l0
      rw [show vals 34 = .int .i64 0 from hR 34 l0] at f0
      refine Or.inl ⟨wanted_at (j := 33) (s := 150) rfl rfl rfl fg, ?_⟩
      exact wp_ret (.int .i64 0) (by simp [go_sem, f0]) (num5_gr _ _) (fun w2 hg2 => ⟨_, rfl, hg2, rfl⟩)
    · obtain rfl := Option.some.inj ho
      have lg := on_of hd 33 (by kernel_rfl)
      have fg := hF.at (s := 150) (i := 33) (by kernel_rfl) (by simp) lg
      rw [show vals 33 = .bool true from hR 33 lg] at fg
      have l0 := on_of hd 35 (by kernel_rfl)
      have f0 := hF.at (s := 152) (i := 35) (by kernel_rfl) (by simp) l0
      rw [show vals 35 = .int .i64 0 from hR 35 l0] at f0
      refine Or.inl ⟨wanted_at (j := 33) (s := 150) rfl rfl rfl fg, ?_⟩
      exact wp_val (.bool true) (by simp [go_sem, f0]) ⟨_, rfl, Gr.refl _, rfl⟩
    · obtain rfl := Option.some.inj ho
      have l0 := on_of hd 33 (by kernel_rfl)
      have f0 := hF.at (s := 150) (i := 33) (by kernel_rfl) (by simp) l0
      rw [show vals 33 = .bool true from hR 33 l0] at f0
      have l1 := on_of hd 36 (by kernel_rfl)
      have f1 := hF.at (s := 153) (i := 36) (by kernel_rfl) (by simp) l1
      rw [show vals 36 = .bool true from hR 36 l1] at f1
      refine Or.inl ⟨wanted_no rfl, ?_⟩
      exact wp_val (.bool true) (by simp [go_sem, f0, f1]) ⟨_, rfl, Gr.refl _, rfl⟩
    · obtain rfl := Option.some.inj ho
      have l0 := on_of hd 37 (by kernel_rfl)
      have f0 := hF.at (s := 154) (i := 37) (by kernel_rfl) (by simp) l0
      rw [show vals 37 = .bool true from hR 37 l0] at f0
      refine Or.inl ⟨wanted_no rfl, ?_⟩
      exact wp_val (.bool true) (by simp [go_sem, f0]) ⟨_, rfl, Gr.refl _, rfl⟩
    · obtain rfl := Option.some.inj ho
      have lg := on_of hd 38 (by kernel_rfl)
      have fg := hF.at (s := 155) (i := 38) (by kernel_rfl) (by simp) lg
      rw [show vals 38 = .bool true from hR 38 lg] at fg
      have f0 := hF.old (s := 25) (v := .pointer (some ⟨e25, 0, none⟩)) (by kernel_rfl) rfl
      refine Or.inl ⟨wanted_at (j := 38) (s := 155) rfl rfl rfl fg, ?_⟩
      exact wp_val (.agg (nw 9 1)) (by simp [go_sem, f0, Hc_e25]) ⟨_, rfl, Gr.refl _, rfl⟩
    · obtain rfl := Option.some.inj ho
      have lg := on_of hd 38 (by kernel_rfl)
      have fg := hF.at (s := 155) (i := 38) (by kernel_rfl) (by simp) lg
      rw [show vals 38 = .bool true from hR 38 lg] at fg
      refine Or.inl ⟨wanted_at (j := 38) (s := 155) rfl rfl rfl fg, ?_⟩
      exact wp_ret (.agg (nw 9 1)) (by simp [go_sem]) (O1.out _) (fun w2 hg2 => ⟨_, rfl, hg2, rfl⟩)
    · obtain rfl := Option.some.inj ho
      have lg := on_of hd 38 (by kernel_rfl)
      have fg := hF.at (s := 155) (i := 38) (by kernel_rfl) (by simp) lg
      rw [show vals 38 = .bool true from hR 38 lg] at fg
      have l0 := on_of hd 39 (by kernel_rfl)
      have f0 := hF.at (s := 156) (i := 39) (by kernel_rfl) (by simp) l0
      rw [show vals 39 = .agg (nw 9 1) from hR 39 l0] at f0
      have l1 := on_of hd 40 (by kernel_rfl)
      have f1 := hF.at (s := 157) (i := 40) (by kernel_rfl) (by simp) l1
      rw [show vals 40 = .agg (nw 9 1) from hR 40 l1] at f1
      refine Or.inl ⟨wanted_at (j := 38) (s := 155) rfl rfl rfl fg, ?_⟩
      exact wp_val (.bool true) (by simp [go_sem, f0, f1]) ⟨_, rfl, Gr.refl _, rfl⟩
    · obtain rfl := Option.some.inj ho
      have l0 := on_of hd 38 (by kernel_rfl)
      have f0 := hF.at (s := 155) (i := 38) (by kernel_rfl) (by simp) l0
      rw [show vals 38 = .bool true from hR 38 l0] at f0
      have l1 := on_of hd 41 (by kernel_rfl)
      have f1 := hF.at (s := 158) (i := 41) (by kernel_rfl) (by simp) l1
      rw [show vals 41 = .bool true from hR 41 l1] at f1
      refine Or.inl ⟨wanted_no rfl, ?_⟩
      exact wp_val (.bool true) (by simp [go_sem, f0, f1]) ⟨_, rfl, Gr.refl _, rfl⟩
    · obtain rfl := Option.some.inj ho
      have l0 := on_of hd 42 (by kernel_rfl)
      have f0 := hF.at (s := 159) (i := 42) (by kernel_rfl) (by simp) l0
      rw [show vals 42 = .bool true from hR 42 l0] at f0
      refine Or.inl ⟨wanted_no rfl, ?_⟩
      exact wp_val (.bool true) (by simp [go_sem, f0]) ⟨_, rfl, Gr.refl _, rfl⟩
  case hf =>
    intro vals v hg hR
    have x0 : vals 0 = .int .i64 501 := hR 0 (by simp)
    have x1 : vals 1 = .int .i64 501 := hR 1 (by simp)
    have x2 : vals 2 = .bool true := hR 2 (by simp)
    have x3 : vals 3 = .bool true := hR 3 (by simp)
    have x4 : vals 4 = .int .i64 501 := hR 4 (by simp)
    have x5 : vals 5 = .int .i64 501 := hR 5 (by simp)
    have x6 : vals 6 = .bool true := hR 6 (by simp)
    have x7 : vals 7 = .bool true := hR 7 (by simp)
    have x8 : vals 8 = .bool true := hR 8 (by simp)
    have x9 : vals 9 = .int .i64 501 := hR 9 (by simp)
    have x10 : vals 10 = .int .i64 501 := hR 10 (by simp)
    have x11 : vals 11 = .bool true := hR 11 (by simp)
    have x12 : vals 12 = .bool true := hR 12 (by simp)
    have x13 : vals 13 = .bool true := hR 13 (by simp)
    have x14 : vals 14 = .int .i64 501 := hR 14 (by simp)
    have x15 : vals 15 = .int .i64 501 := hR 15 (by simp)
    have x16 : vals 16 = .bool true := hR 16 (by simp)
    have x17 : vals 17 = .bool true := hR 17 (by simp)
    have x18 : vals 18 = .bool true := hR 18 (by simp)
    have x19 : vals 19 = .int .i64 501 := hR 19 (by simp)
    have x20 : vals 20 = .int .i64 501 := hR 20 (by simp)
    have x21 : vals 21 = .bool true := hR 21 (by simp)
    have x22 : vals 22 = .bool true := hR 22 (by simp)
    have x23 : vals 23 = .bool true := hR 23 (by simp)
    have x24 : vals 24 = .int .i64 0 := hR 24 (by simp)
    have x25 : vals 25 = .int .i64 0 := hR 25 (by simp)
    have x26 : vals 26 = .bool true := hR 26 (by simp)
    have x27 : vals 27 = .bool true := hR 27 (by simp)
    have x28 : vals 28 = .bool true := hR 28 (by simp)
    have x29 : vals 29 = .agg (nw 9 0) := hR 29 (by simp)
    have x30 : vals 30 = .agg (nw 9 0) := hR 30 (by simp)
    have x31 : vals 31 = .bool true := hR 31 (by simp)
    have x32 : vals 32 = .bool true := hR 32 (by simp)
    have x33 : vals 33 = .bool true := hR 33 (by simp)
    have x34 : vals 34 = .int .i64 0 := hR 34 (by simp)
    have x35 : vals 35 = .int .i64 0 := hR 35 (by simp)
    have x36 : vals 36 = .bool true := hR 36 (by simp)
    have x37 : vals 37 = .bool true := hR 37 (by simp)
    have x38 : vals 38 = .bool true := hR 38 (by simp)
    have x39 : vals 39 = .agg (nw 9 1) := hR 39 (by simp)
    have x40 : vals 40 = .agg (nw 9 1) := hR 40 (by simp)
    have x41 : vals 41 = .bool true := hR 41 (by simp)
    have x42 : vals 42 = .bool true := hR 42 (by simp)
    have x43 : vals 43 = .bool true := hR 43 (by simp)
    simp only [putFrom, Act.put, List.setIfInBounds_toArray, List.set_cons_zero, List.set_cons_succ, x0, x1, x2, x3, x4, x5, x6, x7, x8, x9, x10, x11, x12, x13, x14, x15, x16, x17, x18, x19, x20, x21, x22, x23, x24, x25, x26, x27, x28, x29, x30, x31, x32, x33, x34, x35, x36, x37, x38, x39, x40, x41, x42, x43]
    clear hR x0 x1 x2 x3 x4 x5 x6 x7 x8 x9 x10 x11 x12 x13 x14 x15 x16 x17 x18 x19 x20 x21 x22 x23 x24 x25 x26 x27 x28 x29 x30 x31 x32 x33 x34 x35 x36 x37 x38 x39 x40 x41 x42 x43
    have HG : Gr w v := G.trans hg
    clear hg
    go_wp2_with fail
    go_ret
    exact ⟨rfl, HG⟩

end Go.Proofs.Ytkmpholjlophpaa
