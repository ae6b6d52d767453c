/-
  divide.Div: what it hands back.
-/
import Derived.Test.YtbafjcbbiiipfaaDE
import Derived.Test.YtbafjcbbiiipfaaMixG
namespace Go.Proofs.Ytbafjcbbiiipfaa
open Go.RowKit
attribute [local go_sem ↓] loadNat_is loadArr_is loadWide_is loadArrW_is storeNat_is storeWide_is
attribute [local go_sem] loadNat loadArr loadWide loadArrW storeNat storeWide idxArr fold9 fold18 nw_size nw_elem pre_self pre_1 pre_2 pre_3 pre_4 pre_5 pre_6 pre_7 pre_8 pre_9 pre_10 pre_11 pre_12 pre_13 pre_14 pre_15 pre_16 pre_17 pre_18 pre_19 pre_20 pre_21 pre_22 pre_23 pre_24 pre_25 pre_26 pre_27 pre_28 pre_29 pre_30 pre_31 pre_32 pre_33 pre_34 pre_35 pre_36 pre_37 pre_38 pre_39 pre_40 gro_size gro_drew gro_drewN drew_gro drewN_gro gro_gro blk_gro frz_gro blk_drew frz_drew blk_drewN frz_drewN blk_alloc_at frz_alloc_at blk_alloc frz_alloc cell_gro frozen_gro cell_alloc_pre frozen_alloc_pre setCell_drewN alloc_drewN setBlk_drew setBlk_drewN setBlk_alloc_at setBlk_alloc setBlk_gro setCell_gro setCell_alloc_pre size_setBlk size_setCell
attribute [local go_sem ↓] loadDv_is load19_is storeDv_is store19_is copy_is
attribute [local go_sem] idx18 loadDv load19 storeDv store19 dv_size dv_9 dv_10 dv_e9 dv_e10 dv_elem fold11 fold19 setCell_in cell_in frozen_in frz_setBlk blk_setBlk setBlk_setBlk copy_run cpA_nw ones_nw

attribute [local go_sem ↓] Go.wp_at_zero Go.wp_at_succ
attribute [local go_sem] blk_other
theorem Gr.frz0 {w v : World} (h : Gr w v) (b : Nat) (hb : b < w.heap.size) (hf : Go.Proofs.Ytbafjcbbiiipfaa.frz w b = (0, 0)) : Go.Proofs.Ytbafjcbbiiipfaa.frz v b = (0, 0) := by rw [h.frz b hb]; exact hf
set_option maxRecDepth 100000 in
set_option maxHeartbeats 1200000 in
theorem div_any (a m : Nat) (ha : a < M) (h0 : 0 < m) (hM : m < M) (w : World) :
    Calls Try.prog 12 #[.agg (nw 9 a), .agg (nw 9 m)] w fun e w' => e = .returned (.tuple #[.agg (nw 9 (a / m)), .agg (nw 9 (a % m)), .int .i64 0]) ∧ Gr w w' := by
  have HZ : Hid (∀ w, Calls Try.prog 32 #[.agg (nw 9 m)] w fun e w' => e = .returned (.bool false) ∧ Gr w w') := fun w => notZero m h0 hM w
  obtain ⟨D, n, u, hd, hD⟩ := divisorOf_any m h0 hM
  have HD : Hid (∀ w, Calls Try.prog 33 #[.agg (nw 9 m)] w fun e w' => e = .returned (.agg (dv D (n + 1) u)) ∧ Gr w w') := hD
  have HW : Hid (∀ w, Calls Try.prog 35 #[.agg (nw 9 a)] w fun e w' => e = .returned (.agg (nw 18 a)) ∧ Gr w w') := fun w => widen_any a ha w
  have hr := fun w => splitD a m D n u hd (lt18 a ha) w
  have hl := fun w => lowHalf_any (a / m) w
  rw [Nat.mod_eq_of_lt (div_lt a m ha)] at hl
  obtain ⟨R, hR⟩ : ∃ R, a % m = R := ⟨_, rfl⟩
  obtain ⟨Q, hQ⟩ : ∃ Q, a / m = Q := ⟨_, rfl⟩
  rw [hR, hQ]
  rw [hR, hQ] at hr
  rw [hQ] at hl
  have HR : Hid (∀ w, Calls Try.prog 34 #[.agg (dv D (n + 1) u), .agg (nw 18 a)] w fun e w' => e = .returned (.tuple #[.agg (nw 18 Q), .agg (nw 9 R)]) ∧ Gr w w') := hr
  have HL : Hid (∀ w, Calls Try.prog 36 #[.agg (nw 18 Q)] w fun e w' => e = .returned (.agg (nw 9 Q)) ∧ Gr w w') := hl
  clear hr hl hR hQ h0 hM ha hd hD
  go_enter Try.func12, Try.ntmps12
  go_wp2_with (go_at_call 32; refine (HZ.out _).mono ?_; rintro e w' ⟨rfl, g, rfl⟩)
  refine wp_region_mix (by kernel_rfl) (by kernel_rfl) (RG _ (fun i => match i with | 0 => some (.agg (nw 9 m)) | 1 => some (.agg (dv D (n + 1) u)) | 2 => some (.agg (nw 9 a)) | 3 => some (.agg (nw 18 a)) | 4 => some (.tuple #[.agg (nw 18 Q), .agg (nw 9 R)]) | 5 => some (.tuple #[.agg (nw 18 Q), .agg (nw 9 R)]) | 6 => some (.agg (nw 18 Q)) | 7 => some (.agg (nw 9 R)) | _ => none) (fun i => match i with | 8 => some (nw 18 0) | 9 => some (nw 9 0) | _ => none) (fun i => match i with | 8 => some (10, nw 18 Q) | 9 => some (11, nw 9 R) | _ => none)) (RG.start _ _ _ _ _ _) ?hs ?hf
  case hs =>
    intro listed vals a1 v1 i o hz hR hF ho hl hd
    have hks : ∀ (j k : Nat) (r : Array Value), (match j with | 8 => some (10, nw 18 Q) | 9 => some (11, nw 9 R) | _ => (none : Option (Nat × Array Value))) = some (k, r) → (j = 8 ∧ k = 10) ∨ (j = 9 ∧ k = 11) := fun j k r h => by
      split at h <;> simp_all
    have hbm : blk v1 (w.heap.size + 1) = nw 9 m := (blk_of _ _ _ (hR.1.below.block (w.heap.size + 1) (by simp [go_sem] <;> omega))).trans (by simp [go_sem])
    have hba : blk v1 (w.heap.size) = nw 9 a := (blk_of _ _ _ (hR.1.below.block (w.heap.size) (by simp [go_sem] <;> omega))).trans (by simp [go_sem])
    have hb2 : blk v1 (w.heap.size + 1 + 1) = nw 9 0 := (blk_of _ _ _ (hR.1.below.block (w.heap.size + 1 + 1) (by simp [go_sem] <;> omega))).trans (by simp [go_sem])
    have hb3 : blk v1 (w.heap.size + 1 + 1 + 1) = nw 9 0 := (blk_of _ _ _ (hR.1.below.block (w.heap.size + 1 + 1 + 1) (by simp [go_sem] <;> omega))).trans (by simp [go_sem])
    have hi : i < 12 := by simpa using (Array.getElem?_eq_some_iff.1 ho).1
    have hil : i < listed.size := by rw [hz]; simpa using hi
    obtain rfl | rfl | rfl | rfl | rfl | rfl | rfl | rfl | rfl | rfl | rfl | rfl : i = 0 ∨ i = 1 ∨ i = 2 ∨ i = 3 ∨ i = 4 ∨ i = 5 ∨ i = 6 ∨ i = 7 ∨ i = 8 ∨ i = 9 ∨ i = 10 ∨ i = 11 := by omega
    · obtain rfl := Option.some.inj ho
      have f0 := hF.old (s := 3) (v := .pointer (some ⟨w.heap.size + 1, 0, none⟩)) (by kernel_rfl) rfl
      exact wp_val (.agg (nw 9 m)) (by simp [go_sem, f0, hbm]) ⟨_, rfl, RG.quiet 0 _ hil rfl rfl (fun j k r h => by have := hks j k r h; omega) (Gr.refl _) hR⟩
    · obtain rfl := Option.some.inj ho
      have l0 := hd ⟨0, .data⟩ (by simp) rfl
      have f0 := hF.at (s := 14) (i := 0) (by kernel_rfl) (by simp) l0
      rw [hR.2.1 0 _ l0 rfl] at f0
      exact wp_ret (.agg (dv D (n + 1) u)) (by simp [go_sem, f0]) (HD.out _) (fun w2 hg => ⟨_, rfl, RG.quiet 1 _ hil rfl rfl (fun j k r h => by have := hks j k r h; omega) hg hR⟩)
    · obtain rfl := Option.some.inj ho
      have f0 := hF.old (s := 2) (v := .pointer (some ⟨w.heap.size, 0, none⟩)) (by kernel_rfl) rfl
      exact wp_val (.agg (nw 9 a)) (by simp [go_sem, f0, hba]) ⟨_, rfl, RG.quiet 2 _ hil rfl rfl (fun j k r h => by have := hks j k r h; omega) (Gr.refl _) hR⟩
    · obtain rfl := Option.some.inj ho
      have l0 := hd ⟨2, .data⟩ (by simp) rfl
      have f0 := hF.at (s := 16) (i := 2) (by kernel_rfl) (by simp) l0
      rw [hR.2.1 2 _ l0 rfl] at f0
      exact wp_ret (.agg (nw 18 a)) (by simp [go_sem, f0]) (HW.out _) (fun w2 hg => ⟨_, rfl, RG.quiet 3 _ hil rfl rfl (fun j k r h => by have := hks j k r h; omega) hg hR⟩)
    · obtain rfl := Option.some.inj ho
      have l0 := hd ⟨1, .data⟩ (by simp) rfl
      have f0 := hF.at (s := 15) (i := 1) (by kernel_rfl) (by simp) l0
      rw [hR.2.1 1 _ l0 rfl] at f0
      have l1 := hd ⟨3, .data⟩ (by simp) rfl
      have f1 := hF.at (s := 17) (i := 3) (by kernel_rfl) (by simp) l1
      rw [hR.2.1 3 _ l1 rfl] at f1
      exact wp_ret (.tuple #[.agg (nw 18 Q), .agg (nw 9 R)]) (by simp [go_sem, f0, f1]) (HR.out _) (fun w2 hg => ⟨_, rfl, RG.quiet 4 _ hil rfl rfl (fun j k r h => by have := hks j k r h; omega) hg hR⟩)
    · obtain rfl := Option.some.inj ho
      have l0 := hd ⟨4, .data⟩ (by simp) rfl
      have f0 := hF.at (s := 18) (i := 4) (by kernel_rfl) (by simp) l0
      rw [hR.2.1 4 _ l0 rfl] at f0
      exact wp_val (.tuple #[.agg (nw 18 Q), .agg (nw 9 R)]) (by simp [go_sem, f0]) ⟨_, rfl, RG.quiet 5 _ hil rfl rfl (fun j k r h => by have := hks j k r h; omega) (Gr.refl _) hR⟩
    · obtain rfl := Option.some.inj ho
      have l0 := hd ⟨5, .data⟩ (by simp) rfl
      have f0 := hF.at (s := 13) (i := 5) (by kernel_rfl) (by simp) l0
      rw [hR.2.1 5 _ l0 rfl] at f0
      exact wp_val (.agg (nw 18 Q)) (by simp [go_sem, f0]) ⟨_, rfl, RG.quiet 6 _ hil rfl rfl (fun j k r h => by have := hks j k r h; omega) (Gr.refl _) hR⟩
    · obtain rfl := Option.some.inj ho
      have l0 := hd ⟨5, .data⟩ (by simp) rfl
      have f0 := hF.at (s := 13) (i := 5) (by kernel_rfl) (by simp) l0
      rw [hR.2.1 5 _ l0 rfl] at f0
      exact wp_val (.agg (nw 9 R)) (by simp [go_sem, f0]) ⟨_, rfl, RG.quiet 7 _ hil rfl rfl (fun j k r h => by have := hks j k r h; omega) (Gr.refl _) hR⟩
    · obtain rfl := Option.some.inj ho
      exact wp_val (.pointer (some ⟨v1.heap.size, 0, none⟩)) (w' := v1.alloc (.cells (nw 18 0) 28)) (by simp [go_sem]) ⟨_, rfl, RG.alloc 8 (nw 18 0) 28 hil hl rfl rfl (fun j k r h => by have := hks j k r h; omega) hR⟩
    · obtain rfl := Option.some.inj ho
      exact wp_val (.pointer (some ⟨v1.heap.size, 0, none⟩)) (w' := v1.alloc (.cells (nw 9 0) 25)) (by simp [go_sem]) ⟨_, rfl, RG.alloc 9 (nw 9 0) 25 hil hl rfl rfl (fun j k r h => by have := hks j k r h; omega) hR⟩
    · obtain rfl := Option.some.inj ho
      have l0 := hd ⟨8, .data⟩ (by simp) rfl
      have l1 := hd ⟨6, .data⟩ (by simp) rfl
      obtain ⟨B, h4, h5⟩ := hR.2.2.2
      obtain ⟨e1, e2, e3, e4, e5⟩ := h4 8 (nw 18 0) l0 rfl
      simp only [hl] at e5
      replace e5 : blk v1 (B 8) = nw 18 0 := e5
      have f0 := hF.at (s := 7) (i := 8) (by kernel_rfl) (by simp) l0
      rw [e1] at f0
      have f1 := hF.at (s := 19) (i := 6) (by kernel_rfl) (by simp) l1
      rw [hR.2.1 6 _ l1 rfl] at f1
      exact wp_skip (w' := setBlk v1 (B 8) (nw 18 Q)) (by simp [go_sem, f0, f1, e4, e5]) ⟨undef, rfl, RG.store 10 8 (nw 18 0) (nw 18 Q) (B 8) hil hl rfl rfl rfl l0 rfl (by rw [nw_size]; decide) e1 (fun k r h => by have := hks k _ r h; omega) hR⟩
    · obtain rfl := Option.some.inj ho
      have l0 := hd ⟨9, .data⟩ (by simp) rfl
      have l1 := hd ⟨7, .data⟩ (by simp) rfl
      obtain ⟨B, h4, h5⟩ := hR.2.2.2
      obtain ⟨e1, e2, e3, e4, e5⟩ := h4 9 (nw 9 0) l0 rfl
      simp only [hl] at e5
      replace e5 : blk v1 (B 9) = nw 9 0 := e5
      have f0 := hF.at (s := 8) (i := 9) (by kernel_rfl) (by simp) l0
      rw [e1] at f0
      have f1 := hF.at (s := 20) (i := 7) (by kernel_rfl) (by simp) l1
      rw [hR.2.1 7 _ l1 rfl] at f1
      exact wp_skip (w' := setBlk v1 (B 9) (nw 9 R)) (by simp [go_sem, f0, f1, e4, e5]) ⟨undef, rfl, RG.store 11 9 (nw 9 0) (nw 9 R) (B 9) hil hl rfl rfl rfl l0 rfl (by rw [nw_size]; decide) e1 (fun k r h => by have := hks k _ r h; omega) hR⟩
  case hf =>
    intro listed vals a1 v1 hall hR hF
    have hbm : blk v1 (w.heap.size + 1) = nw 9 m := (blk_of _ _ _ (hR.1.below.block (w.heap.size + 1) (by simp [go_sem] <;> omega))).trans (by simp [go_sem])
    have phbm : Pre (w.heap.size + 1 + 1) v1.heap.size := Nat.le_trans (show w.heap.size + 1 + 1 ≤ _ by simp [go_sem] <;> omega) hR.1.below.size
    have hba : blk v1 (w.heap.size) = nw 9 a := (blk_of _ _ _ (hR.1.below.block (w.heap.size) (by simp [go_sem] <;> omega))).trans (by simp [go_sem])
    have phba : Pre (w.heap.size + 1) v1.heap.size := Nat.le_trans (show w.heap.size + 1 ≤ _ by simp [go_sem] <;> omega) hR.1.below.size
    have hb2 : blk v1 (w.heap.size + 1 + 1) = nw 9 0 := (blk_of _ _ _ (hR.1.below.block (w.heap.size + 1 + 1) (by simp [go_sem] <;> omega))).trans (by simp [go_sem])
    have phb2 : Pre (w.heap.size + 1 + 1 + 1) v1.heap.size := Nat.le_trans (show w.heap.size + 1 + 1 + 1 ≤ _ by simp [go_sem] <;> omega) hR.1.below.size
    have hb3 : blk v1 (w.heap.size + 1 + 1 + 1) = nw 9 0 := (blk_of _ _ _ (hR.1.below.block (w.heap.size + 1 + 1 + 1) (by simp [go_sem] <;> omega))).trans (by simp [go_sem])
    have phb3 : Pre (w.heap.size + 1 + 1 + 1 + 1) v1.heap.size := Nat.le_trans (show w.heap.size + 1 + 1 + 1 + 1 ≤ _ by simp [go_sem] <;> omega) hR.1.below.size
    have hV := hR.2.1
    obtain ⟨B, h4, h5⟩ := hR.2.2.2
    have x0 := hV 0 _ (hall 0 (by simp)) rfl
    have x1 := hV 1 _ (hall 1 (by simp)) rfl
    have x2 := hV 2 _ (hall 2 (by simp)) rfl
    have x3 := hV 3 _ (hall 3 (by simp)) rfl
    have x4 := hV 4 _ (hall 4 (by simp)) rfl
    have x5 := hV 5 _ (hall 5 (by simp)) rfl
    have x6 := hV 6 _ (hall 6 (by simp)) rfl
    have x7 := hV 7 _ (hall 7 (by simp)) rfl
    obtain ⟨x8, q8, p8, z8, y8⟩ := h4 8 _ (hall 8 (by simp)) rfl
    simp only [hall 10 (by simp), if_true] at y8
    replace p8 : Pre (B 8 + 1) v1.heap.size := p8
    replace y8 : blk v1 (B 8) = nw 18 Q := y8
    obtain ⟨x9, q9, p9, z9, y9⟩ := h4 9 _ (hall 9 (by simp)) rfl
    simp only [hall 11 (by simp), if_true] at y9
    replace p9 : Pre (B 9 + 1) v1.heap.size := p9
    replace y9 : blk v1 (B 9) = nw 9 R := y9
    have hb1 := hR.1
    rw [hF.final (by kernel_rfl) hall]
    simp only [putFrom, Act.put, List.setIfInBounds_toArray, List.set_cons_zero, List.set_cons_succ, x0, x1, x2, x3, x4, x5, x6, x7, x8, x9]
    generalize B 8 = b8 at *
    generalize B 9 = b9 at *
    clear hV h4 h5 hR hF hall x0 x1 x2 x3 x4 x5 x6 x7 x8 x9
    have hf2 : frz v1 (w.heap.size + 1 + 1) = (0, 0) := hb1.frz0 _ (by simp [go_sem] <;> omega) (by simp [go_sem])
    have hf3 : frz v1 (w.heap.size + 1 + 1 + 1) = (0, 0) := hb1.frz0 _ (by simp [go_sem] <;> omega) (by simp [go_sem])
    obtain ⟨W1, hW1⟩ : ∃ W, gro ((((w.alloc (.cells (nw 9 a) 25)).alloc (.cells (nw 9 m) 25)).alloc (.cells (nw 9 0) 25)).alloc (.cells (nw 9 0) 25)) g = W := ⟨_, rfl⟩
    have HG : Hid (Gr w v1) := by show Gr w v1; refine Gr.trans ?_ hb1; exact (by repeat (first | exact Gr.refl _ | apply Gr.drewN | apply Gr.drew | apply Gr.alloc | apply Gr.gro))
    have n92 : ¬ (w.heap.size + 1 + 1) = b9 := fun e => by have h := q9; rw [← e] at h; simp [go_sem] at h; omega
    have n93 : ¬ (w.heap.size + 1 + 1 + 1) = b9 := fun e => by have h := q9; rw [← e] at h; simp [go_sem] at h; omega
    have n82 : ¬ (w.heap.size + 1 + 1) = b8 := fun e => by have h := q8; rw [← e] at h; simp [go_sem] at h; omega
    have n83 : ¬ (w.heap.size + 1 + 1 + 1) = b8 := fun e => by have h := q8; rw [← e] at h; simp [go_sem] at h; omega
    clear hb1 hW1 q8 q9
    go_wp2_with fail
    go_region_with (go_at_call 36; refine (HL.out _).mono ?_; rintro e w' ⟨rfl, g3, rfl⟩)
    all_goals
      go_wp2_with fail
      refine bodyPost_ret (res_three Try.results12 (rd_nat (x := Q) (by rfl) ?_) (rd_nat (x := R) (by rfl) ?_) (rd_tmp (by rfl))) rfl ⟨rfl, ?_⟩
      · simp [go_sem, *]
      · simp [go_sem, *]
      · repeat (first | exact HG.out | apply Gr.drewN | apply Gr.drew | apply Gr.alloc | apply Gr.gro | (refine gr_setNew ?_ (by omega)))

end Go.Proofs.Ytbafjcbbiiipfaa
