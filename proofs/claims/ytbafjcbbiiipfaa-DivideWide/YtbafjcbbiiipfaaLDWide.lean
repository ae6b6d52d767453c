/-
  The statement DivideWide, walked: it answers true for every three numbers.
-/
import Derived.Test.YtbafjcbbiiipfaaDAw
import Derived.Test.YtbafjcbbiiipfaaSmB
namespace Go.Proofs.Ytbafjcbbiiipfaa
open Go.RowKit
attribute [local go_sem ↓] loadNat_is loadArr_is loadWide_is loadArrW_is storeNat_is storeWide_is
attribute [local go_sem] loadNat loadArr loadWide loadArrW storeNat storeWide idxArr fold9 fold18 nw_size nw_elem pre_self pre_1 pre_2 pre_3 pre_4 pre_5 pre_6 pre_7 pre_8 pre_9 pre_10 pre_11 pre_12 pre_13 pre_14 pre_15 pre_16 pre_17 pre_18 pre_19 pre_20 pre_21 pre_22 pre_23 pre_24 pre_25 pre_26 pre_27 pre_28 pre_29 pre_30 pre_31 pre_32 pre_33 pre_34 pre_35 pre_36 pre_37 pre_38 pre_39 pre_40 gro_size gro_drew gro_drewN drew_gro drewN_gro gro_gro blk_gro frz_gro blk_drew frz_drew blk_drewN frz_drewN blk_alloc_at frz_alloc_at blk_alloc frz_alloc cell_gro frozen_gro cell_alloc_pre frozen_alloc_pre setCell_drewN alloc_drewN setBlk_drew setBlk_drewN setBlk_alloc_at setBlk_alloc setBlk_gro setCell_gro setCell_alloc_pre size_setBlk size_setCell
attribute [local go_sem ↓] loadDv_is load19_is storeDv_is store19_is copy_is
attribute [local go_sem] idx18 loadDv load19 storeDv store19 dv_size dv_9 dv_10 dv_e9 dv_e10 dv_elem fold11 fold19 setCell_in cell_in frozen_in frz_setBlk blk_setBlk setBlk_setBlk copy_run cpA_nw ones_nw

attribute [local go_sem] nw_ext9 nw_ext18 eqArr9 eqArr18
attribute [local go_sem] loadNat2 loadArr2 loadWide2 loadK_nw ppre_1 ppre_2 ppre_3 ppre_4 ppre_5 ppre_6 ppre_7 ppre_8 ppre_9 ppre_10 ppre_11 ppre_12 ppre_13 ppre_14 ppre_15 ppre_16 ppre_17 ppre_18 ppre_19 ppre_20

attribute [local go_sem] eqN_self
attribute [local go_sem ↓] Go.wp_at_zero Go.wp_at_succ
attribute [local go_sem] blk_other

set_option maxRecDepth 100000 in
set_option maxHeartbeats 1600000 in
theorem dwide_zero (a b P : Nat) (ha : nw 18 (a % pw 9) = nw 18 a) (cp : ∀ w, Calls Try.prog 27 #[.agg (nw 9 a), .agg (nw 9 b)] w fun e w' => e = .returned (.agg (nw 18 P)) ∧ Gr w w') (cr : ∀ w, Calls Try.prog 13 #[.agg (nw 18 P), .agg (nw 9 0)] w fun e w' => e = .returned (.tuple #[.agg (nw 9 0), .int .i64 400]) ∧ Gr w w') (c2 : ∀ w, Calls Try.prog 14 #[.agg (nw 9 a), .agg (nw 9 b), .agg (nw 9 0)] w fun e w' => e = .returned (.tuple #[.agg (nw 9 0), .int .i64 400]) ∧ Gr w w') (c3 : ∀ w, Calls Try.prog 13 #[.agg (nw 18 a), .agg (nw 9 0)] w fun e w' => e = .returned (.tuple #[.agg (nw 9 0), .int .i64 400]) ∧ Gr w w') (c4 : ∀ w, Calls Try.prog 12 #[.agg (nw 9 a), .agg (nw 9 0)] w fun e w' => e = .returned (.tuple #[.agg (nw 9 0), .agg (nw 9 0), .int .i64 400]) ∧ Gr w w')  (w : World) :
    Calls Try.prog 10 #[.agg (nw 9 a), .agg (nw 9 b), .agg (nw 9 0)] w fun e w' => e = .returned (.bool true) ∧ Gr w w' := by
  have CP : Hid (∀ w, Calls Try.prog 27 #[.agg (nw 9 a), .agg (nw 9 b)] w fun e w' => e = .returned (.agg (nw 18 P)) ∧ Gr w w') := cp
  have CR : Hid (∀ w, Calls Try.prog 13 #[.agg (nw 18 P), .agg (nw 9 0)] w fun e w' => e = .returned (.tuple #[.agg (nw 9 0), .int .i64 400]) ∧ Gr w w') := cr
  have C2 : Hid (∀ w, Calls Try.prog 14 #[.agg (nw 9 a), .agg (nw 9 b), .agg (nw 9 0)] w fun e w' => e = .returned (.tuple #[.agg (nw 9 0), .int .i64 400]) ∧ Gr w w') := c2
  have C3 : Hid (∀ w, Calls Try.prog 13 #[.agg (nw 18 a), .agg (nw 9 0)] w fun e w' => e = .returned (.tuple #[.agg (nw 9 0), .int .i64 400]) ∧ Gr w w') := c3
  have C4 : Hid (∀ w, Calls Try.prog 12 #[.agg (nw 9 a), .agg (nw 9 0)] w fun e w' => e = .returned (.tuple #[.agg (nw 9 0), .agg (nw 9 0), .int .i64 400]) ∧ Gr w w') := c4
  have q1 := eqN_self 9 0
  have q2 := eqN_self 9 0
  have q3 := eqN_self 9 0
  clear cp cr c2 c3 c4
  go_enter Try.func10, Try.ntmps10
  go_wp2_with (go_at_call 17; refine (awake4_any _).mono ?_; rintro e w' ⟨rfl, gaw, rfl⟩)
  refine wp_region_mix (by kernel_rfl) (by kernel_rfl) (RG _ (fun i => match i with | 0 => some (.agg (nw 9 a)) | 1 => some (.agg (nw 9 b)) | 2 => some (.agg (nw 18 P)) | 3 => some (.agg (nw 9 0)) | 4 => some (.tuple #[.agg (nw 9 0), .int .i64 400]) | 5 => some (.tuple #[.agg (nw 9 0), .int .i64 400]) | 6 => some (.agg (nw 9 0)) | 7 => some (.int .i64 400) | 10 => some (.int .i64 400) | _ => none) (fun i => match i with | 8 => some (nw 9 0) | _ => none) (fun i => match i with | 8 => some (9, nw 9 0) | _ => none)) (RG.start _ _ _ _ _ _) ?hs ?hf
  case hs =>
    intro listed vals a1 v1 i o hz hR hF ho hl hd
    have hks : ∀ (j k : Nat) (r : Array Value), (match j with | 8 => some (9, nw 9 0) | _ => (none : Option (Nat × Array Value))) = some (k, r) → (j = 8 ∧ k = 9) := fun j k r h => by
      split at h <;> simp_all
    have hba : blk v1 (w.heap.size) = nw 9 a := (blk_of _ _ _ (hR.1.below.block (w.heap.size) (by simp [go_sem] <;> omega))).trans (by simp [go_sem])
    have hbb : blk v1 (w.heap.size + 1) = nw 9 b := (blk_of _ _ _ (hR.1.below.block (w.heap.size + 1) (by simp [go_sem] <;> omega))).trans (by simp [go_sem])
    have hbm : blk v1 (w.heap.size + 1 + 1) = nw 9 0 := (blk_of _ _ _ (hR.1.below.block (w.heap.size + 1 + 1) (by simp [go_sem] <;> omega))).trans (by simp [go_sem])
    have hi : i < 11 := by simpa using (Array.getElem?_eq_some_iff.1 ho).1
    have hil : i < listed.size := by rw [hz]; simpa using hi
    obtain rfl | rfl | rfl | rfl | rfl | rfl | rfl | rfl | rfl | rfl | rfl : i = 0 ∨ i = 1 ∨ i = 2 ∨ i = 3 ∨ i = 4 ∨ i = 5 ∨ i = 6 ∨ i = 7 ∨ i = 8 ∨ i = 9 ∨ i = 10 := by omega
    · obtain rfl := Option.some.inj ho
      have f0 := hF.old (s := 3) (v := .pointer (some ⟨w.heap.size, 0, none⟩)) (by kernel_rfl) rfl
      exact wp_val (.agg (nw 9 a)) (by simp [go_sem, f0, hba]) ⟨_, rfl, RG.quiet 0 _ hil rfl rfl (fun j k r h => by have := hks j k r h; omega) (Gr.refl _) hR⟩
    · obtain rfl := Option.some.inj ho
      have f0 := hF.old (s := 4) (v := .pointer (some ⟨w.heap.size + 1, 0, none⟩)) (by kernel_rfl) rfl
      exact wp_val (.agg (nw 9 b)) (by simp [go_sem, f0, hbb]) ⟨_, rfl, RG.quiet 1 _ hil rfl rfl (fun j k r h => by have := hks j k r h; omega) (Gr.refl _) hR⟩
    · obtain rfl := Option.some.inj ho
      have l0 := hd ⟨0, .data⟩ (by simp) rfl
      have f0 := hF.at (s := 20) (i := 0) (by kernel_rfl) (by simp) l0
      rw [hR.2.1 0 _ l0 rfl] at f0
      have l1 := hd ⟨1, .data⟩ (by simp) rfl
      have f1 := hF.at (s := 21) (i := 1) (by kernel_rfl) (by simp) l1
      rw [hR.2.1 1 _ l1 rfl] at f1
      exact wp_ret (.agg (nw 18 P)) (by simp [go_sem, f0, f1]) (CP.out _) (fun w2 hg => ⟨_, rfl, RG.quiet 2 _ hil rfl rfl (fun j k r h => by have := hks j k r h; omega) hg hR⟩)
    · obtain rfl := Option.some.inj ho
      have f0 := hF.old (s := 5) (v := .pointer (some ⟨w.heap.size + 1 + 1, 0, none⟩)) (by kernel_rfl) rfl
      exact wp_val (.agg (nw 9 0)) (by simp [go_sem, f0, hbm]) ⟨_, rfl, RG.quiet 3 _ hil rfl rfl (fun j k r h => by have := hks j k r h; omega) (Gr.refl _) hR⟩
    · obtain rfl := Option.some.inj ho
      have l0 := hd ⟨2, .data⟩ (by simp) rfl
      have f0 := hF.at (s := 22) (i := 2) (by kernel_rfl) (by simp) l0
      rw [hR.2.1 2 _ l0 rfl] at f0
      have l1 := hd ⟨3, .data⟩ (by simp) rfl
      have f1 := hF.at (s := 23) (i := 3) (by kernel_rfl) (by simp) l1
      rw [hR.2.1 3 _ l1 rfl] at f1
      exact wp_ret (.tuple #[.agg (nw 9 0), .int .i64 400]) (by simp [go_sem, f0, f1]) (CR.out _) (fun w2 hg => ⟨_, rfl, RG.quiet 4 _ hil rfl rfl (fun j k r h => by have := hks j k r h; omega) hg hR⟩)
    · obtain rfl := Option.some.inj ho
      have l0 := hd ⟨4, .data⟩ (by simp) rfl
      have f0 := hF.at (s := 24) (i := 4) (by kernel_rfl) (by simp) l0
      rw [hR.2.1 4 _ l0 rfl] at f0
      exact wp_val (.tuple #[.agg (nw 9 0), .int .i64 400]) (by simp [go_sem, f0]) ⟨_, rfl, RG.quiet 5 _ hil rfl rfl (fun j k r h => by have := hks j k r h; omega) (Gr.refl _) hR⟩
    · obtain rfl := Option.some.inj ho
      have l0 := hd ⟨5, .data⟩ (by simp) rfl
      have f0 := hF.at (s := 19) (i := 5) (by kernel_rfl) (by simp) l0
      rw [hR.2.1 5 _ l0 rfl] at f0
      exact wp_val (.agg (nw 9 0)) (by simp [go_sem, f0]) ⟨_, rfl, RG.quiet 6 _ hil rfl rfl (fun j k r h => by have := hks j k r h; omega) (Gr.refl _) hR⟩
    · obtain rfl := Option.some.inj ho
      have l0 := hd ⟨5, .data⟩ (by simp) rfl
      have f0 := hF.at (s := 19) (i := 5) (by kernel_rfl) (by simp) l0
      rw [hR.2.1 5 _ l0 rfl] at f0
      exact wp_val (.int .i64 400) (by simp [go_sem, f0]) ⟨_, rfl, RG.quiet 7 _ hil rfl rfl (fun j k r h => by have := hks j k r h; omega) (Gr.refl _) hR⟩
    · obtain rfl := Option.some.inj ho
      exact wp_val (.pointer (some ⟨v1.heap.size, 0, none⟩)) (w' := v1.alloc (.cells (nw 9 0) 25)) (by simp [go_sem]) ⟨_, rfl, RG.alloc 8 (nw 9 0) 25 hil hl rfl rfl (fun j k r h => by have := hks j k r h; omega) hR⟩
    · obtain rfl := Option.some.inj ho
      have l0 := hd ⟨8, .data⟩ (by simp) rfl
      have l1 := hd ⟨6, .data⟩ (by simp) rfl
      obtain ⟨B, h4, h5⟩ := hR.2.2.2
      obtain ⟨e1, e2, e3, e4, e5⟩ := h4 8 (nw 9 0) l0 rfl
      simp only [hl] at e5
      replace e5 : blk v1 (B 8) = nw 9 0 := e5
      have f0 := hF.at (s := 7) (i := 8) (by kernel_rfl) (by simp) l0
      rw [e1] at f0
      have f1 := hF.at (s := 25) (i := 6) (by kernel_rfl) (by simp) l1
      rw [hR.2.1 6 _ l1 rfl] at f1
      exact wp_skip (w' := setBlk v1 (B 8) (nw 9 0)) (by simp [go_sem, f0, f1, e4, e5]) ⟨undef, rfl, RG.store 9 8 (nw 9 0) (nw 9 0) (B 8) hil hl rfl rfl rfl l0 rfl (by rw [nw_size]; decide) e1 (fun k r h => by have := hks k _ r h; omega) hR⟩
    · obtain rfl := Option.some.inj ho
      have l0 := hd ⟨7, .data⟩ (by simp) rfl
      have f0 := hF.at (s := 26) (i := 7) (by kernel_rfl) (by simp) l0
      rw [hR.2.1 7 _ l0 rfl] at f0
      exact wp_val (.int .i64 400) (by simp [go_sem, f0]) ⟨_, rfl, RG.quiet 10 _ hil rfl rfl (fun j k r h => by have := hks j k r h; omega) (Gr.refl _) hR⟩
  case hf =>
    intro listed vals a1 v1 hall hR hF
    have hba : blk v1 (w.heap.size) = nw 9 a := (blk_of _ _ _ (hR.1.below.block (w.heap.size) (by simp [go_sem] <;> omega))).trans (by simp [go_sem])
    have phba : Pre (w.heap.size + 1) v1.heap.size := Nat.le_trans (show w.heap.size + 1 ≤ _ from by simp [go_sem] <;> omega) hR.1.below.size
    have hbb : blk v1 (w.heap.size + 1) = nw 9 b := (blk_of _ _ _ (hR.1.below.block (w.heap.size + 1) (by simp [go_sem] <;> omega))).trans (by simp [go_sem])
    have phbb : Pre (w.heap.size + 1 + 1) v1.heap.size := Nat.le_trans (show w.heap.size + 1 + 1 ≤ _ from by simp [go_sem] <;> omega) hR.1.below.size
    have hbm : blk v1 (w.heap.size + 1 + 1) = nw 9 0 := (blk_of _ _ _ (hR.1.below.block (w.heap.size + 1 + 1) (by simp [go_sem] <;> omega))).trans (by simp [go_sem])
    have phbm : Pre (w.heap.size + 1 + 1 + 1) v1.heap.size := Nat.le_trans (show w.heap.size + 1 + 1 + 1 ≤ _ from by simp [go_sem] <;> omega) hR.1.below.size
    have hV := hR.2.1
    obtain ⟨B, h4, h5⟩ := hR.2.2.2
    have x0 := hV 0 _ (hall 0 (by simp)) rfl
    have x1 := hV 1 _ (hall 1 (by simp)) rfl
    have x2 := hV 2 _ (hall 2 (by simp)) rfl
    have x3 := hV 3 _ (hall 3 (by simp)) rfl
    have x4 := hV 4 _ (hall 4 (by simp)) rfl
    have x5 := hV 5 _ (hall 5 (by simp)) rfl
    have x6 := hV 6 _ (hall 6 (by simp)) rfl
    have x7 := hV 7 _ (hall 7 (by simp)) rfl
    have x10 := hV 10 _ (hall 10 (by simp)) rfl
    obtain ⟨x8, q8, p8, z8, y8⟩ := h4 8 _ (hall 8 (by simp)) rfl
    simp only [hall 9 (by simp), if_true] at y8
    replace p8 : Pre (B 8 + 1) v1.heap.size := p8
    replace y8 : blk v1 (B 8) = nw 9 0 := y8
    have hb1 := hR.1
    rw [hF.final (by kernel_rfl) hall]
    simp only [putFrom, Act.put, List.setIfInBounds_toArray, List.set_cons_zero, List.set_cons_succ, x0, x1, x2, x3, x4, x5, x6, x7, x10, x8]
    generalize B 8 = b8 at *
    clear hV h4 h5 hR hF hall x0 x1 x2 x3 x4 x5 x6 x7 x10 x8
    have HG : Hid (Gr w v1) := by show Gr w v1; refine Gr.trans ?_ hb1; exact (by repeat (first | exact Gr.refl _ | apply Gr.drewN | apply Gr.drew | apply Gr.alloc | apply Gr.gro))
    clear hb1
    go_wp2_with (first
      | (go_at_call 14; refine (C2.out _).mono ?_; rintro e w' ⟨rfl, gC2, rfl⟩)
      | (go_at_call 13; refine (C3.out _).mono ?_; rintro e w' ⟨rfl, gC3, rfl⟩)
      | (go_at_call 12; refine (C4.out _).mono ?_; rintro e w' ⟨rfl, gC4, rfl⟩)
      | (go_at_call 16; refine (num_any _ _).mono ?_; rintro e w' ⟨rfl, rfl⟩))
    obtain ⟨W2, hW2⟩ : ∃ W, ((gro v1 gC2).alloc (.cells (nw 9 0) 25)).alloc (.cells (nw 18 0) 28) = W := ⟨_, rfl⟩
    have k8 : Gr v1 W2 := by rw [← hW2]; exact (by repeat (first | exact Gr.refl _ | apply Gr.drewN | apply Gr.drew | apply Gr.alloc | apply Gr.gro))
    have k1 : blk W2 (w.heap.size) = nw 9 a := (k8.blk _ phba).trans hba
    have k2 : blk W2 (v1.heap.size + gC2.os.length + 1) = nw 18 0 := by rw [← hW2]; simp [go_sem]
    have k3 : frz W2 (v1.heap.size + gC2.os.length + 1) = (0, 0) := by rw [← hW2]; simp [go_sem]
    have k4 : blk W2 (v1.heap.size + gC2.os.length) = nw 9 0 := by rw [← hW2]; simp [go_sem]
    have k5 : Pre (v1.heap.size + gC2.os.length + 1 + 1) W2.heap.size := by rw [← hW2]; simp [go_sem]
    have k6 : Pre (v1.heap.size + gC2.os.length + 1) W2.heap.size := by rw [← hW2]; simp [go_sem]
    have k7 : blk W2 (w.heap.size + 1 + 1) = nw 9 0 := (k8.blk _ phbm).trans hbm
    have k9 : blk W2 b8 = nw 9 0 := (k8.blk _ p8).trans y8
    have HG2 : Hid (Gr w W2) := HG.out.trans k8
    have pk : ∀ x, Pre x v1.heap.size → Pre x W2.heap.size := fun x h => Nat.le_trans h k8.below.size
    have j1 := pk _ phba
    have j2 := pk _ phbm
    have j3 := pk _ p8
    have i1 : ¬ v1.heap.size + gC2.os.length + 1 = w.heap.size := fun e => by have h : w.heap.size + 1 ≤ v1.heap.size := phba; omega
    have i2 : ¬ v1.heap.size + gC2.os.length + 1 = w.heap.size + 1 + 1 := fun e => by have h : w.heap.size + 1 + 1 + 1 ≤ v1.heap.size := phbm; omega
    have i3 : ¬ v1.heap.size + gC2.os.length + 1 = b8 := fun e => by have h : b8 + 1 ≤ v1.heap.size := p8; omega
    have i4 : ¬ v1.heap.size + gC2.os.length + 1 = v1.heap.size + gC2.os.length := by omega
    rw [hW2]
    clear hW2
    have hcg : w.heap.size ≤ v1.heap.size + gC2.os.length + 1 := by have h : w.heap.size + 1 ≤ v1.heap.size := phba; omega
    generalize v1.heap.size + gC2.os.length = d9 at *
    obtain ⟨cc, hcc⟩ : ∃ cc, d9 + 1 = cc := ⟨_, rfl⟩
    rw [hcc] at k2 k3 k5 i1 i2 i3 i4 hcg ⊢
    clear hcc
    clear k8 pk phba phbm phbb hba hbm hbb p8 y8 HG
    go_big_region
    go_wp2_with (first
      | (go_at_call 14; refine (C2.out _).mono ?_; rintro e w' ⟨rfl, gC2, rfl⟩)
      | (go_at_call 13; refine (C3.out _).mono ?_; rintro e w' ⟨rfl, gC3, rfl⟩)
      | (go_at_call 12; refine (C4.out _).mono ?_; rintro e w' ⟨rfl, gC4, rfl⟩)
      | (go_at_call 16; refine (num_any _ _).mono ?_; rintro e w' ⟨rfl, rfl⟩))
    go_ret
    exact ⟨rfl, by repeat (first | exact HG2.out | apply Gr.drewN | apply Gr.drew | apply Gr.alloc | apply Gr.gro | (refine gr_setNew ?_ (by omega)))⟩

set_option maxRecDepth 100000 in
set_option maxHeartbeats 1600000 in
theorem dwide_more (a b P m rr u q : Nat) (ha : nw 18 (a % pw 9) = nw 18 a) (cp : ∀ w, Calls Try.prog 27 #[.agg (nw 9 a), .agg (nw 9 b)] w fun e w' => e = .returned (.agg (nw 18 P)) ∧ Gr w w') (cr : ∀ w, Calls Try.prog 13 #[.agg (nw 18 P), .agg (nw 9 m)] w fun e w' => e = .returned (.tuple #[.agg (nw 9 rr), .int .i64 0]) ∧ Gr w w') (c2 : ∀ w, Calls Try.prog 14 #[.agg (nw 9 a), .agg (nw 9 b), .agg (nw 9 m)] w fun e w' => e = .returned (.tuple #[.agg (nw 9 rr), .int .i64 0]) ∧ Gr w w') (c3 : ∀ w, Calls Try.prog 13 #[.agg (nw 18 a), .agg (nw 9 m)] w fun e w' => e = .returned (.tuple #[.agg (nw 9 u), .int .i64 0]) ∧ Gr w w') (c4 : ∀ w, Calls Try.prog 12 #[.agg (nw 9 a), .agg (nw 9 m)] w fun e w' => e = .returned (.tuple #[.agg (nw 9 q), .agg (nw 9 u), .int .i64 0]) ∧ Gr w w') (c5 : ∀ w, Calls Try.prog 29 #[.agg (nw 9 rr), .agg (nw 9 m)] w fun e w' => e = .returned (.int .i64 (-1)) ∧ Gr w w') (e0 : eqN 9 m 0 = false) (w : World) :
    Calls Try.prog 10 #[.agg (nw 9 a), .agg (nw 9 b), .agg (nw 9 m)] w fun e w' => e = .returned (.bool true) ∧ Gr w w' := by
  have CP : Hid (∀ w, Calls Try.prog 27 #[.agg (nw 9 a), .agg (nw 9 b)] w fun e w' => e = .returned (.agg (nw 18 P)) ∧ Gr w w') := cp
  have CR : Hid (∀ w, Calls Try.prog 13 #[.agg (nw 18 P), .agg (nw 9 m)] w fun e w' => e = .returned (.tuple #[.agg (nw 9 rr), .int .i64 0]) ∧ Gr w w') := cr
  have C2 : Hid (∀ w, Calls Try.prog 14 #[.agg (nw 9 a), .agg (nw 9 b), .agg (nw 9 m)] w fun e w' => e = .returned (.tuple #[.agg (nw 9 rr), .int .i64 0]) ∧ Gr w w') := c2
  have C3 : Hid (∀ w, Calls Try.prog 13 #[.agg (nw 18 a), .agg (nw 9 m)] w fun e w' => e = .returned (.tuple #[.agg (nw 9 u), .int .i64 0]) ∧ Gr w w') := c3
  have C4 : Hid (∀ w, Calls Try.prog 12 #[.agg (nw 9 a), .agg (nw 9 m)] w fun e w' => e = .returned (.tuple #[.agg (nw 9 q), .agg (nw 9 u), .int .i64 0]) ∧ Gr w w') := c4
  have C5 : Hid (∀ w, Calls Try.prog 29 #[.agg (nw 9 rr), .agg (nw 9 m)] w fun e w' => e = .returned (.int .i64 (-1)) ∧ Gr w w') := c5
  have q1 := eqN_self 9 rr
  have q2 := eqN_self 9 u
  have q3 := eqN_self 9 0
  clear cp cr c2 c3 c4 c5
  go_enter Try.func10, Try.ntmps10
  go_wp2_with (go_at_call 17; refine (awake4_any _).mono ?_; rintro e w' ⟨rfl, gaw, rfl⟩)
  refine wp_region_mix (by kernel_rfl) (by kernel_rfl) (RG _ (fun i => match i with | 0 => some (.agg (nw 9 a)) | 1 => some (.agg (nw 9 b)) | 2 => some (.agg (nw 18 P)) | 3 => some (.agg (nw 9 m)) | 4 => some (.tuple #[.agg (nw 9 rr), .int .i64 0]) | 5 => some (.tuple #[.agg (nw 9 rr), .int .i64 0]) | 6 => some (.agg (nw 9 rr)) | 7 => some (.int .i64 0) | 10 => some (.int .i64 0) | _ => none) (fun i => match i with | 8 => some (nw 9 0) | _ => none) (fun i => match i with | 8 => some (9, nw 9 rr) | _ => none)) (RG.start _ _ _ _ _ _) ?hs ?hf
  case hs =>
    intro listed vals a1 v1 i o hz hR hF ho hl hd
    have hks : ∀ (j k : Nat) (r : Array Value), (match j with | 8 => some (9, nw 9 rr) | _ => (none : Option (Nat × Array Value))) = some (k, r) → (j = 8 ∧ k = 9) := fun j k r h => by
      split at h <;> simp_all
    have hba : blk v1 (w.heap.size) = nw 9 a := (blk_of _ _ _ (hR.1.below.block (w.heap.size) (by simp [go_sem] <;> omega))).trans (by simp [go_sem])
    have hbb : blk v1 (w.heap.size + 1) = nw 9 b := (blk_of _ _ _ (hR.1.below.block (w.heap.size + 1) (by simp [go_sem] <;> omega))).trans (by simp [go_sem])
    have hbm : blk v1 (w.heap.size + 1 + 1) = nw 9 m := (blk_of _ _ _ (hR.1.below.block (w.heap.size + 1 + 1) (by simp [go_sem] <;> omega))).trans (by simp [go_sem])
    have hi : i < 11 := by simpa using (Array.getElem?_eq_some_iff.1 ho).1
    have hil : i < listed.size := by rw [hz]; simpa using hi
    obtain rfl | rfl | rfl | rfl | rfl | rfl | rfl | rfl | rfl | rfl | rfl : i = 0 ∨ i = 1 ∨ i = 2 ∨ i = 3 ∨ i = 4 ∨ i = 5 ∨ i = 6 ∨ i = 7 ∨ i = 8 ∨ i = 9 ∨ i = 10 := by omega
    · obtain rfl := Option.some.inj ho
      have f0 := hF.old (s := 3) (v := .pointer (some ⟨w.heap.size, 0, none⟩)) (by kernel_rfl) rfl
      exact wp_val (.agg (nw 9 a)) (by simp [go_sem, f0, hba]) ⟨_, rfl, RG.quiet 0 _ hil rfl rfl (fun j k r h => by have := hks j k r h; omega) (Gr.refl _) hR⟩
    · obtain rfl := Option.some.inj ho
      have f0 := hF.old (s := 4) (v := .pointer (some ⟨w.heap.size + 1, 0, none⟩)) (by kernel_rfl) rfl
      exact wp_val (.agg (nw 9 b)) (by simp [go_sem, f0, hbb]) ⟨_, rfl, RG.quiet 1 _ hil rfl rfl (fun j k r h => by have := hks j k r h; omega) (Gr.refl _) hR⟩
    · obtain rfl := Option.some.inj ho
      have l0 := hd ⟨0, .data⟩ (by simp) rfl
      have f0 := hF.at (s := 20) (i := 0) (by kernel_rfl) (by simp) l0
      rw [hR.2.1 0 _ l0 rfl] at f0
      have l1 := hd ⟨1, .data⟩ (by simp) rfl
      have f1 := hF.at (s := 21) (i := 1) (by kernel_rfl) (by simp) l1
      rw [hR.2.1 1 _ l1 rfl] at f1
      exact wp_ret (.agg (nw 18 P)) (by simp [go_sem, f0, f1]) (CP.out _) (fun w2 hg => ⟨_, rfl, RG.quiet 2 _ hil rfl rfl (fun j k r h => by have := hks j k r h; omega) hg hR⟩)
    · obtain rfl := Option.some.inj ho
      have f0 := hF.old (s := 5) (v := .pointer (some ⟨w.heap.size + 1 + 1, 0, none⟩)) (by kernel_rfl) rfl
      exact wp_val (.agg (nw 9 m)) (by simp [go_sem, f0, hbm]) ⟨_, rfl, RG.quiet 3 _ hil rfl rfl (fun j k r h => by have := hks j k r h; omega) (Gr.refl _) hR⟩
    · obtain rfl := Option.some.inj ho
      have l0 := hd ⟨2, .data⟩ (by simp) rfl
      have f0 := hF.at (s := 22) (i := 2) (by kernel_rfl) (by simp) l0
      rw [hR.2.1 2 _ l0 rfl] at f0
      have l1 := hd ⟨3, .data⟩ (by simp) rfl
      have f1 := hF.at (s := 23) (i := 3) (by kernel_rfl) (by simp) l1
      rw [hR.2.1 3 _ l1 rfl] at f1
      exact wp_ret (.tuple #[.agg (nw 9 rr), .int .i64 0]) (by simp [go_sem, f0, f1]) (CR.out _) (fun w2 hg => ⟨_, rfl, RG.quiet 4 _ hil rfl rfl (fun j k r h => by have := hks j k r h; omega) hg hR⟩)
    · obtain rfl := Option.some.inj ho
      have l0 := hd ⟨4, .data⟩ (by simp) rfl
      have f0 := hF.at (s := 24) (i := 4) (by kernel_rfl) (by simp) l0
      rw [hR.2.1 4 _ l0 rfl] at f0
      exact wp_val (.tuple #[.agg (nw 9 rr), .int .i64 0]) (by simp [go_sem, f0]) ⟨_, rfl, RG.quiet 5 _ hil rfl rfl (fun j k r h => by have := hks j k r h; omega) (Gr.refl _) hR⟩
    · obtain rfl := Option.some.inj ho
      have l0 := hd ⟨5, .data⟩ (by simp) rfl
      have f0 := hF.at (s := 19) (i := 5) (by kernel_rfl) (by simp) l0
      rw [hR.2.1 5 _ l0 rfl] at f0
      exact wp_val (.agg (nw 9 rr)) (by simp [go_sem, f0]) ⟨_, rfl, RG.quiet 6 _ hil rfl rfl (fun j k r h => by have := hks j k r h; omega) (Gr.refl _) hR⟩
    · obtain rfl := Option.some.inj ho
      have l0 := hd ⟨5, .data⟩ (by simp) rfl
      have f0 := hF.at (s := 19) (i := 5) (by kernel_rfl) (by simp) l0
      rw [hR.2.1 5 _ l0 rfl] at f0
      exact wp_val (.int .i64 0) (by simp [go_sem, f0]) ⟨_, rfl, RG.quiet 7 _ hil rfl rfl (fun j k r h => by have := hks j k r h; omega) (Gr.refl _) hR⟩
    · obtain rfl := Option.some.inj ho
      exact wp_val (.pointer (some ⟨v1.heap.size, 0, none⟩)) (w' := v1.alloc (.cells (nw 9 0) 25)) (by simp [go_sem]) ⟨_, rfl, RG.alloc 8 (nw 9 0) 25 hil hl rfl rfl (fun j k r h => by have := hks j k r h; omega) hR⟩
    · obtain rfl := Option.some.inj ho
      have l0 := hd ⟨8, .data⟩ (by simp) rfl
      have l1 := hd ⟨6, .data⟩ (by simp) rfl
      obtain ⟨B, h4, h5⟩ := hR.2.2.2
      obtain ⟨e1, e2, e3, e4, e5⟩ := h4 8 (nw 9 0) l0 rfl
      simp only [hl] at e5
      replace e5 : blk v1 (B 8) = nw 9 0 := e5
      have f0 := hF.at (s := 7) (i := 8) (by kernel_rfl) (by simp) l0
      rw [e1] at f0
      have f1 := hF.at (s := 25) (i := 6) (by kernel_rfl) (by simp) l1
      rw [hR.2.1 6 _ l1 rfl] at f1
      exact wp_skip (w' := setBlk v1 (B 8) (nw 9 rr)) (by simp [go_sem, f0, f1, e4, e5]) ⟨undef, rfl, RG.store 9 8 (nw 9 0) (nw 9 rr) (B 8) hil hl rfl rfl rfl l0 rfl (by rw [nw_size]; decide) e1 (fun k r h => by have := hks k _ r h; omega) hR⟩
    · obtain rfl := Option.some.inj ho
      have l0 := hd ⟨7, .data⟩ (by simp) rfl
      have f0 := hF.at (s := 26) (i := 7) (by kernel_rfl) (by simp) l0
      rw [hR.2.1 7 _ l0 rfl] at f0
      exact wp_val (.int .i64 0) (by simp [go_sem, f0]) ⟨_, rfl, RG.quiet 10 _ hil rfl rfl (fun j k r h => by have := hks j k r h; omega) (Gr.refl _) hR⟩
  case hf =>
    intro listed vals a1 v1 hall hR hF
    have hba : blk v1 (w.heap.size) = nw 9 a := (blk_of _ _ _ (hR.1.below.block (w.heap.size) (by simp [go_sem] <;> omega))).trans (by simp [go_sem])
    have phba : Pre (w.heap.size + 1) v1.heap.size := Nat.le_trans (show w.heap.size + 1 ≤ _ from by simp [go_sem] <;> omega) hR.1.below.size
    have hbb : blk v1 (w.heap.size + 1) = nw 9 b := (blk_of _ _ _ (hR.1.below.block (w.heap.size + 1) (by simp [go_sem] <;> omega))).trans (by simp [go_sem])
    have phbb : Pre (w.heap.size + 1 + 1) v1.heap.size := Nat.le_trans (show w.heap.size + 1 + 1 ≤ _ from by simp [go_sem] <;> omega) hR.1.below.size
    have hbm : blk v1 (w.heap.size + 1 + 1) = nw 9 m := (blk_of _ _ _ (hR.1.below.block (w.heap.size + 1 + 1) (by simp [go_sem] <;> omega))).trans (by simp [go_sem])
    have phbm : Pre (w.heap.size + 1 + 1 + 1) v1.heap.size := Nat.le_trans (show w.heap.size + 1 + 1 + 1 ≤ _ from by simp [go_sem] <;> omega) hR.1.below.size
    have hV := hR.2.1
    obtain ⟨B, h4, h5⟩ := hR.2.2.2
    have x0 := hV 0 _ (hall 0 (by simp)) rfl
    have x1 := hV 1 _ (hall 1 (by simp)) rfl
    have x2 := hV 2 _ (hall 2 (by simp)) rfl
    have x3 := hV 3 _ (hall 3 (by simp)) rfl
    have x4 := hV 4 _ (hall 4 (by simp)) rfl
    have x5 := hV 5 _ (hall 5 (by simp)) rfl
    have x6 := hV 6 _ (hall 6 (by simp)) rfl
    have x7 := hV 7 _ (hall 7 (by simp)) rfl
    have x10 := hV 10 _ (hall 10 (by simp)) rfl
    obtain ⟨x8, q8, p8, z8, y8⟩ := h4 8 _ (hall 8 (by simp)) rfl
    simp only [hall 9 (by simp), if_true] at y8
    replace p8 : Pre (B 8 + 1) v1.heap.size := p8
    replace y8 : blk v1 (B 8) = nw 9 rr := y8
    have hb1 := hR.1
    rw [hF.final (by kernel_rfl) hall]
    simp only [putFrom, Act.put, List.setIfInBounds_toArray, List.set_cons_zero, List.set_cons_succ, x0, x1, x2, x3, x4, x5, x6, x7, x10, x8]
    generalize B 8 = b8 at *
    clear hV h4 h5 hR hF hall x0 x1 x2 x3 x4 x5 x6 x7 x10 x8
    have HG : Hid (Gr w v1) := by show Gr w v1; refine Gr.trans ?_ hb1; exact (by repeat (first | exact Gr.refl _ | apply Gr.drewN | apply Gr.drew | apply Gr.alloc | apply Gr.gro))
    clear hb1
    go_wp2_with (first
      | (go_at_call 14; refine (C2.out _).mono ?_; rintro e w' ⟨rfl, gC2, rfl⟩)
      | (go_at_call 13; refine (C3.out _).mono ?_; rintro e w' ⟨rfl, gC3, rfl⟩)
      | (go_at_call 12; refine (C4.out _).mono ?_; rintro e w' ⟨rfl, gC4, rfl⟩)
      | (go_at_call 29; refine (C5.out _).mono ?_; rintro e w' ⟨rfl, gC5, rfl⟩)
      | (go_at_call 16; refine (num_any _ _).mono ?_; rintro e w' ⟨rfl, rfl⟩))
    obtain ⟨W2, hW2⟩ : ∃ W, ((gro v1 gC2).alloc (.cells (nw 9 rr) 25)).alloc (.cells (nw 18 0) 28) = W := ⟨_, rfl⟩
    have k8 : Gr v1 W2 := by rw [← hW2]; exact (by repeat (first | exact Gr.refl _ | apply Gr.drewN | apply Gr.drew | apply Gr.alloc | apply Gr.gro))
    have k1 : blk W2 (w.heap.size) = nw 9 a := (k8.blk _ phba).trans hba
    have k2 : blk W2 (v1.heap.size + gC2.os.length + 1) = nw 18 0 := by rw [← hW2]; simp [go_sem]
    have k3 : frz W2 (v1.heap.size + gC2.os.length + 1) = (0, 0) := by rw [← hW2]; simp [go_sem]
    have k4 : blk W2 (v1.heap.size + gC2.os.length) = nw 9 rr := by rw [← hW2]; simp [go_sem]
    have k5 : Pre (v1.heap.size + gC2.os.length + 1 + 1) W2.heap.size := by rw [← hW2]; simp [go_sem]
    have k6 : Pre (v1.heap.size + gC2.os.length + 1) W2.heap.size := by rw [← hW2]; simp [go_sem]
    have k7 : blk W2 (w.heap.size + 1 + 1) = nw 9 m := (k8.blk _ phbm).trans hbm
    have k9 : blk W2 b8 = nw 9 rr := (k8.blk _ p8).trans y8
    have HG2 : Hid (Gr w W2) := HG.out.trans k8
    have pk : ∀ x, Pre x v1.heap.size → Pre x W2.heap.size := fun x h => Nat.le_trans h k8.below.size
    have j1 := pk _ phba
    have j2 := pk _ phbm
    have j3 := pk _ p8
    have i1 : ¬ v1.heap.size + gC2.os.length + 1 = w.heap.size := fun e => by have h : w.heap.size + 1 ≤ v1.heap.size := phba; omega
    have i2 : ¬ v1.heap.size + gC2.os.length + 1 = w.heap.size + 1 + 1 := fun e => by have h : w.heap.size + 1 + 1 + 1 ≤ v1.heap.size := phbm; omega
    have i3 : ¬ v1.heap.size + gC2.os.length + 1 = b8 := fun e => by have h : b8 + 1 ≤ v1.heap.size := p8; omega
    have i4 : ¬ v1.heap.size + gC2.os.length + 1 = v1.heap.size + gC2.os.length := by omega
    rw [hW2]
    clear hW2
    have hcg : w.heap.size ≤ v1.heap.size + gC2.os.length + 1 := by have h : w.heap.size + 1 ≤ v1.heap.size := phba; omega
    generalize v1.heap.size + gC2.os.length = d9 at *
    obtain ⟨cc, hcc⟩ : ∃ cc, d9 + 1 = cc := ⟨_, rfl⟩
    rw [hcc] at k2 k3 k5 i1 i2 i3 i4 hcg ⊢
    clear hcc
    clear k8 pk phba phbm phbb hba hbm hbb p8 y8 HG
    go_big_region
    go_wp2_with (first
      | (go_at_call 14; refine (C2.out _).mono ?_; rintro e w' ⟨rfl, gC2, rfl⟩)
      | (go_at_call 13; refine (C3.out _).mono ?_; rintro e w' ⟨rfl, gC3, rfl⟩)
      | (go_at_call 12; refine (C4.out _).mono ?_; rintro e w' ⟨rfl, gC4, rfl⟩)
      | (go_at_call 29; refine (C5.out _).mono ?_; rintro e w' ⟨rfl, gC5, rfl⟩)
      | (go_at_call 16; refine (num_any _ _).mono ?_; rintro e w' ⟨rfl, rfl⟩))
    go_ret
    exact ⟨rfl, by repeat (first | exact HG2.out | apply Gr.drewN | apply Gr.drew | apply Gr.alloc | apply Gr.gro | (refine gr_setNew ?_ (by omega)))⟩

theorem dwide_any (a b m : Nat) (ha : a < M) (hb : b < M) (hm : m < M) (w : World) :
    Calls Try.prog 10 #[.agg (nw 9 a), .agg (nw 9 b), .agg (nw 9 m)] w fun e w' => e = .returned (.bool true) ∧ Gr w w' := by
  have hA : nw 18 (a % pw 9) = nw 18 a := congrArg (nw 18) (Nat.mod_eq_of_lt ha)
  by_cases h0 : m = 0
  · subst h0
    exact dwide_zero a b (a * b) hA (fun w => mul_any a b ha hb w) (fun w => mod_zero (a * b) w) (fun w => mulMod_zero a b ha hb w) (fun w => mod_zero a w) (fun w => div_zero a w) w
  · have m0 : 0 < m := by omega
    have hr : a * b % m < m := Nat.mod_lt _ m0
    refine dwide_more a b (a * b) m (a * b % m) (a % m) (a / m) hA (fun w => mul_any a b ha hb w) (fun w => mod_any (a * b) m m0 hm (mul_lt18 a b ha hb) w) (fun w => mulMod_any a b m ha hb m0 hm w) (fun w => mod_any a m m0 hm (lt18 a ha) w) (fun w => div_any a m ha m0 hm w) (fun w => ?_) (by rw [eqN9 m 0 hm M_pos]; exact decide_eq_false h0) w
    have := cmp_any (a * b % m) m (Nat.lt_trans hr hm) hm w
    rw [show cmpZ (a * b % m) m = -1 by unfold cmpZ; rw [if_pos hr]] at this
    exact this

end Go.Proofs.Ytbafjcbbiiipfaa
