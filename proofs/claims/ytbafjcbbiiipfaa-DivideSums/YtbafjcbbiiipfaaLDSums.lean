/-
  The statement DivideSums, walked: it answers true for every three numbers.
-/
import Derived.Test.YtbafjcbbiiipfaaDAw
import Derived.Test.YtbafjcbbiiipfaaLawA
namespace Go.Proofs.Ytbafjcbbiiipfaa
open Go.RowKit
attribute [local go_sem ↓] loadNat_is loadArr_is loadWide_is loadArrW_is storeNat_is storeWide_is
attribute [local go_sem] loadNat loadArr loadWide loadArrW storeNat storeWide idxArr fold9 fold18 nw_size nw_elem pre_self pre_1 pre_2 pre_3 pre_4 pre_5 pre_6 pre_7 pre_8 pre_9 pre_10 pre_11 pre_12 pre_13 pre_14 pre_15 pre_16 pre_17 pre_18 pre_19 pre_20 pre_21 pre_22 pre_23 pre_24 pre_25 pre_26 pre_27 pre_28 pre_29 pre_30 pre_31 pre_32 pre_33 pre_34 pre_35 pre_36 pre_37 pre_38 pre_39 pre_40 gro_size gro_drew gro_drewN drew_gro drewN_gro gro_gro blk_gro frz_gro blk_drew frz_drew blk_drewN frz_drewN blk_alloc_at frz_alloc_at blk_alloc frz_alloc cell_gro frozen_gro cell_alloc_pre frozen_alloc_pre setCell_drewN alloc_drewN setBlk_drew setBlk_drewN setBlk_alloc_at setBlk_alloc setBlk_gro setCell_gro setCell_alloc_pre size_setBlk size_setCell
attribute [local go_sem] nw_ext9 nw_ext18 eqArr9 eqArr18

attribute [local go_sem] loadNat2 loadArr2 loadWide2 loadK_nw ppre_1 ppre_2 ppre_3 ppre_4 ppre_5 ppre_6 ppre_7 ppre_8 ppre_9 ppre_10 ppre_11 ppre_12 ppre_13 ppre_14 ppre_15 ppre_16 ppre_17 ppre_18 ppre_19 ppre_20

attribute [local go_sem] eqN_self
attribute [local go_sem ↓] Go.wp_at_zero Go.wp_at_succ
attribute [local go_sem] blk_other

set_option maxRecDepth 100000 in
set_option maxHeartbeats 1600000 in
theorem dsums_zero (a b x y s : Nat) (cx : ∀ w, Calls Try.prog 31 #[.agg (nw 9 a), .int .i64 575] w fun e w' => e = .returned (.agg (nw 9 x)) ∧ Gr w w') (cy : ∀ w, Calls Try.prog 31 #[.agg (nw 9 b), .int .i64 575] w fun e w' => e = .returned (.agg (nw 9 y)) ∧ Gr w w') (ca : ∀ w, Calls Try.prog 28 #[.agg (nw 9 x), .agg (nw 9 y)] w fun e w' => e = .returned (.tuple #[.agg (nw 9 s), .bool false]) ∧ Gr w w') (w : World) :
    Calls Try.prog 7 #[.agg (nw 9 a), .agg (nw 9 b), .agg (nw 9 0)] w fun e w' => e = .returned (.bool true) ∧ Gr w w' := by
  have CX : Hid (∀ w, Calls Try.prog 31 #[.agg (nw 9 a), .int .i64 575] w fun e w' => e = .returned (.agg (nw 9 x)) ∧ Gr w w') := cx
  have CY : Hid (∀ w, Calls Try.prog 31 #[.agg (nw 9 b), .int .i64 575] w fun e w' => e = .returned (.agg (nw 9 y)) ∧ Gr w w') := cy
  have A1 : Hid (∀ w, Calls Try.prog 28 #[.agg (nw 9 x), .agg (nw 9 y)] w fun e w' => e = .returned (.tuple #[.agg (nw 9 s), .bool false]) ∧ Gr w w') := ca
  have e0 := eqN_self 9 0
  clear cx cy ca
  go_enter Try.func7, Try.ntmps7
  go_wp2_with (go_at_call 17; refine (awake4_any _).mono ?_; rintro e w' ⟨rfl, gaw, rfl⟩)
  refine wp_region_mix (by kernel_rfl) (by kernel_rfl) (RG _ (fun i => match i with | 0 => some (.pointer (some ⟨w.heap.size, 0, none⟩)) | 1 => some (.agg (nw 9 a)) | 2 => some (.agg (nw 9 x)) | 3 => some (.pointer (some ⟨w.heap.size + 1, 0, none⟩)) | 4 => some (.agg (nw 9 b)) | 5 => some (.agg (nw 9 y)) | _ => none) (fun i => match i with | 6 => some (nw 9 0) | 7 => some (nw 9 0) | _ => none) (fun i => match i with | 6 => some (8, nw 9 x) | 7 => some (9, nw 9 y) | _ => none)) (RG.start _ _ _ _ _ _) ?hs ?hf
  case hs =>
    intro listed vals a1 v1 i o hz hR hF ho hl hd
    have hks : ∀ (j k : Nat) (r : Array Value), (match j with | 6 => some (8, nw 9 x) | 7 => some (9, nw 9 y) | _ => (none : Option (Nat × Array Value))) = some (k, r) → (j = 6 ∧ k = 8) ∨ (j = 7 ∧ k = 9) := fun j k r h => by
      split at h <;> simp_all
    have hba : blk v1 (w.heap.size) = nw 9 a := (blk_of _ _ _ (hR.1.below.block (w.heap.size) (by simp [go_sem] <;> omega))).trans (by simp [go_sem])
    have hbb : blk v1 (w.heap.size + 1) = nw 9 b := (blk_of _ _ _ (hR.1.below.block (w.heap.size + 1) (by simp [go_sem] <;> omega))).trans (by simp [go_sem])
    have hbm : blk v1 (w.heap.size + 1 + 1) = nw 9 0 := (blk_of _ _ _ (hR.1.below.block (w.heap.size + 1 + 1) (by simp [go_sem] <;> omega))).trans (by simp [go_sem])
    have hi : i < 10 := by simpa using (Array.getElem?_eq_some_iff.1 ho).1
    have hil : i < listed.size := by rw [hz]; simpa using hi
    obtain rfl | rfl | rfl | rfl | rfl | rfl | rfl | rfl | rfl | rfl : i = 0 ∨ i = 1 ∨ i = 2 ∨ i = 3 ∨ i = 4 ∨ i = 5 ∨ i = 6 ∨ i = 7 ∨ i = 8 ∨ i = 9 := by omega
    · obtain rfl := Option.some.inj ho
      have f0 := hF.old (s := 3) (v := .pointer (some ⟨w.heap.size, 0, none⟩)) (by kernel_rfl) rfl
      exact wp_val (.pointer (some ⟨w.heap.size, 0, none⟩)) (by simp [go_sem, f0]) ⟨_, rfl, RG.quiet 0 _ hil rfl rfl (fun j k r h => by have := hks j k r h; omega) (Gr.refl _) hR⟩
    · obtain rfl := Option.some.inj ho
      have l0 := hd ⟨0, .data⟩ (by simp) rfl
      have f0 := hF.at (s := 28) (i := 0) (by kernel_rfl) (by simp) l0
      rw [hR.2.1 0 _ l0 rfl] at f0
      exact wp_val (.agg (nw 9 a)) (by simp [go_sem, f0, hba]) ⟨_, rfl, RG.quiet 1 _ hil rfl rfl (fun j k r h => by have := hks j k r h; omega) (Gr.refl _) hR⟩
    · obtain rfl := Option.some.inj ho
      have l0 := hd ⟨1, .data⟩ (by simp) rfl
      have f0 := hF.at (s := 29) (i := 1) (by kernel_rfl) (by simp) l0
      rw [hR.2.1 1 _ l0 rfl] at f0
      exact wp_ret (.agg (nw 9 x)) (by simp [go_sem, f0]) (CX.out _) (fun w2 hg => ⟨_, rfl, RG.quiet 2 _ hil rfl rfl (fun j k r h => by have := hks j k r h; omega) hg hR⟩)
    · obtain rfl := Option.some.inj ho
      have f0 := hF.old (s := 4) (v := .pointer (some ⟨w.heap.size + 1, 0, none⟩)) (by kernel_rfl) rfl
      exact wp_val (.pointer (some ⟨w.heap.size + 1, 0, none⟩)) (by simp [go_sem, f0]) ⟨_, rfl, RG.quiet 3 _ hil rfl rfl (fun j k r h => by have := hks j k r h; omega) (Gr.refl _) hR⟩
    · obtain rfl := Option.some.inj ho
      have l0 := hd ⟨3, .data⟩ (by simp) rfl
      have f0 := hF.at (s := 31) (i := 3) (by kernel_rfl) (by simp) l0
      rw [hR.2.1 3 _ l0 rfl] at f0
      exact wp_val (.agg (nw 9 b)) (by simp [go_sem, f0, hbb]) ⟨_, rfl, RG.quiet 4 _ hil rfl rfl (fun j k r h => by have := hks j k r h; omega) (Gr.refl _) hR⟩
    · obtain rfl := Option.some.inj ho
      have l0 := hd ⟨4, .data⟩ (by simp) rfl
      have f0 := hF.at (s := 32) (i := 4) (by kernel_rfl) (by simp) l0
      rw [hR.2.1 4 _ l0 rfl] at f0
      exact wp_ret (.agg (nw 9 y)) (by simp [go_sem, f0]) (CY.out _) (fun w2 hg => ⟨_, rfl, RG.quiet 5 _ hil rfl rfl (fun j k r h => by have := hks j k r h; omega) hg hR⟩)
    · obtain rfl := Option.some.inj ho
      exact wp_val (.pointer (some ⟨v1.heap.size, 0, none⟩)) (w' := v1.alloc (.cells (nw 9 0) 25)) (by simp [go_sem]) ⟨_, rfl, RG.alloc 6 (nw 9 0) 25 hil hl rfl rfl (fun j k r h => by have := hks j k r h; omega) hR⟩
    · obtain rfl := Option.some.inj ho
      exact wp_val (.pointer (some ⟨v1.heap.size, 0, none⟩)) (w' := v1.alloc (.cells (nw 9 0) 25)) (by simp [go_sem]) ⟨_, rfl, RG.alloc 7 (nw 9 0) 25 hil hl rfl rfl (fun j k r h => by have := hks j k r h; omega) hR⟩
    · obtain rfl := Option.some.inj ho
      have l0 := hd ⟨6, .data⟩ (by simp) rfl
      have l1 := hd ⟨2, .data⟩ (by simp) rfl
      obtain ⟨B, h4, h5⟩ := hR.2.2.2
      obtain ⟨e1, e2, e3, e4, e5⟩ := h4 6 (nw 9 0) l0 rfl
      simp only [hl] at e5
      replace e5 : blk v1 (B 6) = nw 9 0 := e5
      have f0 := hF.at (s := 7) (i := 6) (by kernel_rfl) (by simp) l0
      rw [e1] at f0
      have f1 := hF.at (s := 30) (i := 2) (by kernel_rfl) (by simp) l1
      rw [hR.2.1 2 _ l1 rfl] at f1
      exact wp_skip (w' := setBlk v1 (B 6) (nw 9 x)) (by simp [go_sem, f0, f1, e4, e5]) ⟨undef, rfl, RG.store 8 6 (nw 9 0) (nw 9 x) (B 6) hil hl rfl rfl rfl l0 rfl (by rw [nw_size]; decide) e1 (fun k r h => by have := hks k _ r h; omega) hR⟩
    · obtain rfl := Option.some.inj ho
      have l0 := hd ⟨7, .data⟩ (by simp) rfl
      have l1 := hd ⟨5, .data⟩ (by simp) rfl
      obtain ⟨B, h4, h5⟩ := hR.2.2.2
      obtain ⟨e1, e2, e3, e4, e5⟩ := h4 7 (nw 9 0) l0 rfl
      simp only [hl] at e5
      replace e5 : blk v1 (B 7) = nw 9 0 := e5
      have f0 := hF.at (s := 8) (i := 7) (by kernel_rfl) (by simp) l0
      rw [e1] at f0
      have f1 := hF.at (s := 33) (i := 5) (by kernel_rfl) (by simp) l1
      rw [hR.2.1 5 _ l1 rfl] at f1
      exact wp_skip (w' := setBlk v1 (B 7) (nw 9 y)) (by simp [go_sem, f0, f1, e4, e5]) ⟨undef, rfl, RG.store 9 7 (nw 9 0) (nw 9 y) (B 7) hil hl rfl rfl rfl l0 rfl (by rw [nw_size]; decide) e1 (fun k r h => by have := hks k _ r h; omega) hR⟩
  case hf =>
    intro listed vals a1 v1 hall hR hF
    have hba : blk v1 (w.heap.size) = nw 9 a := (blk_of _ _ _ (hR.1.below.block (w.heap.size) (by simp [go_sem] <;> omega))).trans (by simp [go_sem])
    have phba : Pre (w.heap.size + 1) v1.heap.size := Nat.le_trans (show w.heap.size + 1 ≤ _ from by simp [go_sem] <;> omega) hR.1.below.size
    have hbb : blk v1 (w.heap.size + 1) = nw 9 b := (blk_of _ _ _ (hR.1.below.block (w.heap.size + 1) (by simp [go_sem] <;> omega))).trans (by simp [go_sem])
    have phbb : Pre (w.heap.size + 1 + 1) v1.heap.size := Nat.le_trans (show w.heap.size + 1 + 1 ≤ _ from by simp [go_sem] <;> omega) hR.1.below.size
    have hbm : blk v1 (w.heap.size + 1 + 1) = nw 9 0 := (blk_of _ _ _ (hR.1.below.block (w.heap.size + 1 + 1) (by simp [go_sem] <;> omega))).trans (by simp [go_sem])
    have phbm : Pre (w.heap.size + 1 + 1 + 1) v1.heap.size := Nat.le_trans (show w.heap.size + 1 + 1 + 1 ≤ _ from by simp [go_sem] <;> omega) hR.1.below.size
    have hV := hR.2.1
    obtain ⟨B, h4, h5⟩ := hR.2.2.2
    have x0 := hV 0 _ (hall 0 (by simp)) rfl
    have x1 := hV 1 _ (hall 1 (by simp)) rfl
    have x2 := hV 2 _ (hall 2 (by simp)) rfl
    have x3 := hV 3 _ (hall 3 (by simp)) rfl
    have x4 := hV 4 _ (hall 4 (by simp)) rfl
    have x5 := hV 5 _ (hall 5 (by simp)) rfl
    obtain ⟨x6, q6, p6, z6, y6⟩ := h4 6 _ (hall 6 (by simp)) rfl
    simp only [hall 8 (by simp), if_true] at y6
    replace p6 : Pre (B 6 + 1) v1.heap.size := p6
    replace y6 : blk v1 (B 6) = nw 9 x := y6
    obtain ⟨x7, q7, p7, z7, y7⟩ := h4 7 _ (hall 7 (by simp)) rfl
    simp only [hall 9 (by simp), if_true] at y7
    replace p7 : Pre (B 7 + 1) v1.heap.size := p7
    replace y7 : blk v1 (B 7) = nw 9 y := y7
    have hb1 := hR.1
    rw [hF.final (by kernel_rfl) hall]
    simp only [putFrom, Act.put, List.setIfInBounds_toArray, List.set_cons_zero, List.set_cons_succ, x0, x1, x2, x3, x4, x5, x6, x7]
    generalize B 6 = b6 at *
    generalize B 7 = b7 at *
    clear hV h4 h5 hR hF hall x0 x1 x2 x3 x4 x5 x6 x7
    have HG : Hid (Gr w v1) := by show Gr w v1; refine Gr.trans ?_ hb1; exact (by repeat (first | exact Gr.refl _ | apply Gr.drewN | apply Gr.drew | apply Gr.alloc | apply Gr.gro))
    clear hb1
    go_wp2_with (first
      | (go_at_call_of 28 ((#[.agg (nw 9 x), .agg (nw 9 y)] : Array Value)); refine (A1.out _).mono ?_; rintro e w' ⟨rfl, gA1, rfl⟩)
      | (go_at_call 12; refine (div_zero _ _).mono ?_; rintro e w' ⟨rfl, gz, rfl⟩)
      | (go_at_call 16; refine (num_any _ _).mono ?_; rintro e w' ⟨rfl, rfl⟩))
    go_ret
    exact ⟨rfl, by repeat (first | exact HG.out | apply Gr.drewN | apply Gr.drew | apply Gr.alloc | apply Gr.gro)⟩

set_option maxRecDepth 100000 in
set_option maxHeartbeats 1600000 in
theorem dsums_great (a b m x y s xq yq sq p q r k : Nat) (cx : ∀ w, Calls Try.prog 31 #[.agg (nw 9 a), .int .i64 575] w fun e w' => e = .returned (.agg (nw 9 x)) ∧ Gr w w') (cy : ∀ w, Calls Try.prog 31 #[.agg (nw 9 b), .int .i64 575] w fun e w' => e = .returned (.agg (nw 9 y)) ∧ Gr w w') (ca : ∀ w, Calls Try.prog 28 #[.agg (nw 9 x), .agg (nw 9 y)] w fun e w' => e = .returned (.tuple #[.agg (nw 9 s), .bool false]) ∧ Gr w w') (d1 : ∀ w, Calls Try.prog 12 #[.agg (nw 9 x), .agg (nw 9 m)] w fun e w' => e = .returned (.tuple #[.agg (nw 9 xq), .agg (nw 9 p), .int .i64 0]) ∧ Gr w w') (d2 : ∀ w, Calls Try.prog 12 #[.agg (nw 9 y), .agg (nw 9 m)] w fun e w' => e = .returned (.tuple #[.agg (nw 9 yq), .agg (nw 9 q), .int .i64 0]) ∧ Gr w w') (d3 : ∀ w, Calls Try.prog 12 #[.agg (nw 9 s), .agg (nw 9 m)] w fun e w' => e = .returned (.tuple #[.agg (nw 9 sq), .agg (nw 9 r), .int .i64 0]) ∧ Gr w w') (ck : ∀ w, Calls Try.prog 31 #[.agg (nw 9 m), .int .i64 570] w fun e w' => e = .returned (.agg (nw 9 k)) ∧ Gr w w') (e0 : eqN 9 m 0 = false) (e1 : eqN 9 k m = false) (w : World) :
    Calls Try.prog 7 #[.agg (nw 9 a), .agg (nw 9 b), .agg (nw 9 m)] w fun e w' => e = .returned (.bool true) ∧ Gr w w' := by
  have CX : Hid (∀ w, Calls Try.prog 31 #[.agg (nw 9 a), .int .i64 575] w fun e w' => e = .returned (.agg (nw 9 x)) ∧ Gr w w') := cx
  have CY : Hid (∀ w, Calls Try.prog 31 #[.agg (nw 9 b), .int .i64 575] w fun e w' => e = .returned (.agg (nw 9 y)) ∧ Gr w w') := cy
  have A1 : Hid (∀ w, Calls Try.prog 28 #[.agg (nw 9 x), .agg (nw 9 y)] w fun e w' => e = .returned (.tuple #[.agg (nw 9 s), .bool false]) ∧ Gr w w') := ca
  have D1 : Hid (∀ w, Calls Try.prog 12 #[.agg (nw 9 x), .agg (nw 9 m)] w fun e w' => e = .returned (.tuple #[.agg (nw 9 xq), .agg (nw 9 p), .int .i64 0]) ∧ Gr w w') := d1
  have D2 : Hid (∀ w, Calls Try.prog 12 #[.agg (nw 9 y), .agg (nw 9 m)] w fun e w' => e = .returned (.tuple #[.agg (nw 9 yq), .agg (nw 9 q), .int .i64 0]) ∧ Gr w w') := d2
  have D3 : Hid (∀ w, Calls Try.prog 12 #[.agg (nw 9 s), .agg (nw 9 m)] w fun e w' => e = .returned (.tuple #[.agg (nw 9 sq), .agg (nw 9 r), .int .i64 0]) ∧ Gr w w') := d3
  have K : Hid (∀ w, Calls Try.prog 31 #[.agg (nw 9 m), .int .i64 570] w fun e w' => e = .returned (.agg (nw 9 k)) ∧ Gr w w') := ck
  clear cx cy ca d1 d2 d3 ck
  go_enter Try.func7, Try.ntmps7
  go_wp2_with (go_at_call 17; refine (awake4_any _).mono ?_; rintro e w' ⟨rfl, gaw, rfl⟩)
  refine wp_region_mix (by kernel_rfl) (by kernel_rfl) (RG _ (fun i => match i with | 0 => some (.pointer (some ⟨w.heap.size, 0, none⟩)) | 1 => some (.agg (nw 9 a)) | 2 => some (.agg (nw 9 x)) | 3 => some (.pointer (some ⟨w.heap.size + 1, 0, none⟩)) | 4 => some (.agg (nw 9 b)) | 5 => some (.agg (nw 9 y)) | _ => none) (fun i => match i with | 6 => some (nw 9 0) | 7 => some (nw 9 0) | _ => none) (fun i => match i with | 6 => some (8, nw 9 x) | 7 => some (9, nw 9 y) | _ => none)) (RG.start _ _ _ _ _ _) ?hs ?hf
  case hs =>
    intro listed vals a1 v1 i o hz hR hF ho hl hd
    have hks : ∀ (j k : Nat) (r : Array Value), (match j with | 6 => some (8, nw 9 x) | 7 => some (9, nw 9 y) | _ => (none : Option (Nat × Array Value))) = some (k, r) → (j = 6 ∧ k = 8) ∨ (j = 7 ∧ k = 9) := fun j k r h => by
      split at h <;> simp_all
    have hba : blk v1 (w.heap.size) = nw 9 a := (blk_of _ _ _ (hR.1.below.block (w.heap.size) (by simp [go_sem] <;> omega))).trans (by simp [go_sem])
    have hbb : blk v1 (w.heap.size + 1) = nw 9 b := (blk_of _ _ _ (hR.1.below.block (w.heap.size + 1) (by simp [go_sem] <;> omega))).trans (by simp [go_sem])
    have hbm : blk v1 (w.heap.size + 1 + 1) = nw 9 m := (blk_of _ _ _ (hR.1.below.block (w.heap.size + 1 + 1) (by simp [go_sem] <;> omega))).trans (by simp [go_sem])
    have hi : i < 10 := by simpa using (Array.getElem?_eq_some_iff.1 ho).1
    have hil : i < listed.size := by rw [hz]; simpa using hi
    obtain rfl | rfl | rfl | rfl | rfl | rfl | rfl | rfl | rfl | rfl : i = 0 ∨ i = 1 ∨ i = 2 ∨ i = 3 ∨ i = 4 ∨ i = 5 ∨ i = 6 ∨ i = 7 ∨ i = 8 ∨ i = 9 := by omega
    · obtain rfl := Option.some.inj ho
      have f0 := hF.old (s := 3) (v := .pointer (some ⟨w.heap.size, 0, none⟩)) (by kernel_rfl) rfl
      exact wp_val (.pointer (some ⟨w.heap.size, 0, none⟩)) (by simp [go_sem, f0]) ⟨_, rfl, RG.quiet 0 _ hil rfl rfl (fun j k r h => by have := hks j k r h; omega) (Gr.refl _) hR⟩
    · obtain rfl := Option.some.inj ho
      have l0 := hd ⟨0, .data⟩ (by simp) rfl
      have f0 := hF.at (s := 28) (i := 0) (by kernel_rfl) (by simp) l0
      rw [hR.2.1 0 _ l0 rfl] at f0
      exact wp_val (.agg (nw 9 a)) (by simp [go_sem, f0, hba]) ⟨_, rfl, RG.quiet 1 _ hil rfl rfl (fun j k r h => by have := hks j k r h; omega) (Gr.refl _) hR⟩
    · obtain rfl := Option.some.inj ho
      have l0 := hd ⟨1, .data⟩ (by simp) rfl
      have f0 := hF.at (s := 29) (i := 1) (by kernel_rfl) (by simp) l0
      rw [hR.2.1 1 _ l0 rfl] at f0
      exact wp_ret (.agg (nw 9 x)) (by simp [go_sem, f0]) (CX.out _) (fun w2 hg => ⟨_, rfl, RG.quiet 2 _ hil rfl rfl (fun j k r h => by have := hks j k r h; omega) hg hR⟩)
    · obtain rfl := Option.some.inj ho
      have f0 := hF.old (s := 4) (v := .pointer (some ⟨w.heap.size + 1, 0, none⟩)) (by kernel_rfl) rfl
      exact wp_val (.pointer (some ⟨w.heap.size + 1, 0, none⟩)) (by simp [go_sem, f0]) ⟨_, rfl, RG.quiet 3 _ hil rfl rfl (fun j k r h => by have := hks j k r h; omega) (Gr.refl _) hR⟩
    · obtain rfl := Option.some.inj ho
      have l0 := hd ⟨3, .data⟩ (by simp) rfl
      have f0 := hF.at (s := 31) (i := 3) (by kernel_rfl) (by simp) l0
      rw [hR.2.1 3 _ l0 rfl] at f0
      exact wp_val (.agg (nw 9 b)) (by simp [go_sem, f0, hbb]) ⟨_, rfl, RG.quiet 4 _ hil rfl rfl (fun j k r h => by have := hks j k r h; omega) (Gr.refl _) hR⟩
    · obtain rfl := Option.some.inj ho
      have l0 := hd ⟨4, .data⟩ (by simp) rfl
      have f0 := hF.at (s := 32) (i := 4) (by kernel_rfl) (by simp) l0
      rw [hR.2.1 4 _ l0 rfl] at f0
      exact wp_ret (.agg (nw 9 y)) (by simp [go_sem, f0]) (CY.out _) (fun w2 hg => ⟨_, rfl, RG.quiet 5 _ hil rfl rfl (fun j k r h => by have := hks j k r h; omega) hg hR⟩)
    · obtain rfl := Option.some.inj ho
      exact wp_val (.pointer (some ⟨v1.heap.size, 0, none⟩)) (w' := v1.alloc (.cells (nw 9 0) 25)) (by simp [go_sem]) ⟨_, rfl, RG.alloc 6 (nw 9 0) 25 hil hl rfl rfl (fun j k r h => by have := hks j k r h; omega) hR⟩
    · obtain rfl := Option.some.inj ho
      exact wp_val (.pointer (some ⟨v1.heap.size, 0, none⟩)) (w' := v1.alloc (.cells (nw 9 0) 25)) (by simp [go_sem]) ⟨_, rfl, RG.alloc 7 (nw 9 0) 25 hil hl rfl rfl (fun j k r h => by have := hks j k r h; omega) hR⟩
    · obtain rfl := Option.some.inj ho
      have l0 := hd ⟨6, .data⟩ (by simp) rfl
      have l1 := hd ⟨2, .data⟩ (by simp) rfl
      obtain ⟨B, h4, h5⟩ := hR.2.2.2
      obtain ⟨e1, e2, e3, e4, e5⟩ := h4 6 (nw 9 0) l0 rfl
      simp only [hl] at e5
      replace e5 : blk v1 (B 6) = nw 9 0 := e5
      have f0 := hF.at (s := 7) (i := 6) (by kernel_rfl) (by simp) l0
      rw [e1] at f0
      have f1 := hF.at (s := 30) (i := 2) (by kernel_rfl) (by simp) l1
      rw [hR.2.1 2 _ l1 rfl] at f1
      exact wp_skip (w' := setBlk v1 (B 6) (nw 9 x)) (by simp [go_sem, f0, f1, e4, e5]) ⟨undef, rfl, RG.store 8 6 (nw 9 0) (nw 9 x) (B 6) hil hl rfl rfl rfl l0 rfl (by rw [nw_size]; decide) e1 (fun k r h => by have := hks k _ r h; omega) hR⟩
    · obtain rfl := Option.some.inj ho
      have l0 := hd ⟨7, .data⟩ (by simp) rfl
      have l1 := hd ⟨5, .data⟩ (by simp) rfl
      obtain ⟨B, h4, h5⟩ := hR.2.2.2
      obtain ⟨e1, e2, e3, e4, e5⟩ := h4 7 (nw 9 0) l0 rfl
      simp only [hl] at e5
      replace e5 : blk v1 (B 7) = nw 9 0 := e5
      have f0 := hF.at (s := 8) (i := 7) (by kernel_rfl) (by simp) l0
      rw [e1] at f0
      have f1 := hF.at (s := 33) (i := 5) (by kernel_rfl) (by simp) l1
      rw [hR.2.1 5 _ l1 rfl] at f1
      exact wp_skip (w' := setBlk v1 (B 7) (nw 9 y)) (by simp [go_sem, f0, f1, e4, e5]) ⟨undef, rfl, RG.store 9 7 (nw 9 0) (nw 9 y) (B 7) hil hl rfl rfl rfl l0 rfl (by rw [nw_size]; decide) e1 (fun k r h => by have := hks k _ r h; omega) hR⟩
  case hf =>
    intro listed vals a1 v1 hall hR hF
    have hba : blk v1 (w.heap.size) = nw 9 a := (blk_of _ _ _ (hR.1.below.block (w.heap.size) (by simp [go_sem] <;> omega))).trans (by simp [go_sem])
    have phba : Pre (w.heap.size + 1) v1.heap.size := Nat.le_trans (show w.heap.size + 1 ≤ _ from by simp [go_sem] <;> omega) hR.1.below.size
    have hbb : blk v1 (w.heap.size + 1) = nw 9 b := (blk_of _ _ _ (hR.1.below.block (w.heap.size + 1) (by simp [go_sem] <;> omega))).trans (by simp [go_sem])
    have phbb : Pre (w.heap.size + 1 + 1) v1.heap.size := Nat.le_trans (show w.heap.size + 1 + 1 ≤ _ from by simp [go_sem] <;> omega) hR.1.below.size
    have hbm : blk v1 (w.heap.size + 1 + 1) = nw 9 m := (blk_of _ _ _ (hR.1.below.block (w.heap.size + 1 + 1) (by simp [go_sem] <;> omega))).trans (by simp [go_sem])
    have phbm : Pre (w.heap.size + 1 + 1 + 1) v1.heap.size := Nat.le_trans (show w.heap.size + 1 + 1 + 1 ≤ _ from by simp [go_sem] <;> omega) hR.1.below.size
    have hV := hR.2.1
    obtain ⟨B, h4, h5⟩ := hR.2.2.2
    have x0 := hV 0 _ (hall 0 (by simp)) rfl
    have x1 := hV 1 _ (hall 1 (by simp)) rfl
    have x2 := hV 2 _ (hall 2 (by simp)) rfl
    have x3 := hV 3 _ (hall 3 (by simp)) rfl
    have x4 := hV 4 _ (hall 4 (by simp)) rfl
    have x5 := hV 5 _ (hall 5 (by simp)) rfl
    obtain ⟨x6, q6, p6, z6, y6⟩ := h4 6 _ (hall 6 (by simp)) rfl
    simp only [hall 8 (by simp), if_true] at y6
    replace p6 : Pre (B 6 + 1) v1.heap.size := p6
    replace y6 : blk v1 (B 6) = nw 9 x := y6
    obtain ⟨x7, q7, p7, z7, y7⟩ := h4 7 _ (hall 7 (by simp)) rfl
    simp only [hall 9 (by simp), if_true] at y7
    replace p7 : Pre (B 7 + 1) v1.heap.size := p7
    replace y7 : blk v1 (B 7) = nw 9 y := y7
    have hb1 := hR.1
    rw [hF.final (by kernel_rfl) hall]
    simp only [putFrom, Act.put, List.setIfInBounds_toArray, List.set_cons_zero, List.set_cons_succ, x0, x1, x2, x3, x4, x5, x6, x7]
    generalize B 6 = b6 at *
    generalize B 7 = b7 at *
    clear hV h4 h5 hR hF hall x0 x1 x2 x3 x4 x5 x6 x7
    have HG : Hid (Gr w v1) := by show Gr w v1; refine Gr.trans ?_ hb1; exact (by repeat (first | exact Gr.refl _ | apply Gr.drewN | apply Gr.drew | apply Gr.alloc | apply Gr.gro))
    clear hb1
    go_wp2_with (first
      | (go_at_call_of 28 ((#[.agg (nw 9 x), .agg (nw 9 y)] : Array Value)); refine (A1.out _).mono ?_; rintro e w' ⟨rfl, gA1, rfl⟩)
      | (go_at_call_of 12 ((#[.agg (nw 9 x), .agg (nw 9 m)] : Array Value)); refine (D1.out _).mono ?_; rintro e w' ⟨rfl, gD1, rfl⟩)
      | (go_at_call_of 12 ((#[.agg (nw 9 y), .agg (nw 9 m)] : Array Value)); refine (D2.out _).mono ?_; rintro e w' ⟨rfl, gD2, rfl⟩)
      | (go_at_call_of 12 ((#[.agg (nw 9 s), .agg (nw 9 m)] : Array Value)); refine (D3.out _).mono ?_; rintro e w' ⟨rfl, gD3, rfl⟩)
      | (go_at_call_of 31 ((#[.agg (nw 9 m), .int .i64 570] : Array Value)); refine (K.out _).mono ?_; rintro e w' ⟨rfl, gK, rfl⟩)
      | (go_at_call 16; refine (num_any _ _).mono ?_; rintro e w' ⟨rfl, rfl⟩))
    go_ret
    exact ⟨rfl, by repeat (first | exact HG.out | apply Gr.drewN | apply Gr.drew | apply Gr.alloc | apply Gr.gro)⟩

set_option maxRecDepth 100000 in
set_option maxHeartbeats 1600000 in
theorem dsums_small (a b m x y s xq yq sq p q r t tq : Nat) (cx : ∀ w, Calls Try.prog 31 #[.agg (nw 9 a), .int .i64 575] w fun e w' => e = .returned (.agg (nw 9 x)) ∧ Gr w w') (cy : ∀ w, Calls Try.prog 31 #[.agg (nw 9 b), .int .i64 575] w fun e w' => e = .returned (.agg (nw 9 y)) ∧ Gr w w') (ca : ∀ w, Calls Try.prog 28 #[.agg (nw 9 x), .agg (nw 9 y)] w fun e w' => e = .returned (.tuple #[.agg (nw 9 s), .bool false]) ∧ Gr w w') (d1 : ∀ w, Calls Try.prog 12 #[.agg (nw 9 x), .agg (nw 9 m)] w fun e w' => e = .returned (.tuple #[.agg (nw 9 xq), .agg (nw 9 p), .int .i64 0]) ∧ Gr w w') (d2 : ∀ w, Calls Try.prog 12 #[.agg (nw 9 y), .agg (nw 9 m)] w fun e w' => e = .returned (.tuple #[.agg (nw 9 yq), .agg (nw 9 q), .int .i64 0]) ∧ Gr w w') (d3 : ∀ w, Calls Try.prog 12 #[.agg (nw 9 s), .agg (nw 9 m)] w fun e w' => e = .returned (.tuple #[.agg (nw 9 sq), .agg (nw 9 r), .int .i64 0]) ∧ Gr w w') (ck : ∀ w, Calls Try.prog 31 #[.agg (nw 9 m), .int .i64 570] w fun e w' => e = .returned (.agg (nw 9 m)) ∧ Gr w w') (ca2 : ∀ w, Calls Try.prog 28 #[.agg (nw 9 p), .agg (nw 9 q)] w fun e w' => e = .returned (.tuple #[.agg (nw 9 t), .bool false]) ∧ Gr w w') (d4 : ∀ w, Calls Try.prog 12 #[.agg (nw 9 t), .agg (nw 9 m)] w fun e w' => e = .returned (.tuple #[.agg (nw 9 tq), .agg (nw 9 r), .int .i64 0]) ∧ Gr w w') (e0 : eqN 9 m 0 = false) (w : World) :
    Calls Try.prog 7 #[.agg (nw 9 a), .agg (nw 9 b), .agg (nw 9 m)] w fun e w' => e = .returned (.bool true) ∧ Gr w w' := by
  have CX : Hid (∀ w, Calls Try.prog 31 #[.agg (nw 9 a), .int .i64 575] w fun e w' => e = .returned (.agg (nw 9 x)) ∧ Gr w w') := cx
  have CY : Hid (∀ w, Calls Try.prog 31 #[.agg (nw 9 b), .int .i64 575] w fun e w' => e = .returned (.agg (nw 9 y)) ∧ Gr w w') := cy
  have A1 : Hid (∀ w, Calls Try.prog 28 #[.agg (nw 9 x), .agg (nw 9 y)] w fun e w' => e = .returned (.tuple #[.agg (nw 9 s), .bool false]) ∧ Gr w w') := ca
  have D1 : Hid (∀ w, Calls Try.prog 12 #[.agg (nw 9 x), .agg (nw 9 m)] w fun e w' => e = .returned (.tuple #[.agg (nw 9 xq), .agg (nw 9 p), .int .i64 0]) ∧ Gr w w') := d1
  have D2 : Hid (∀ w, Calls Try.prog 12 #[.agg (nw 9 y), .agg (nw 9 m)] w fun e w' => e = .returned (.tuple #[.agg (nw 9 yq), .agg (nw 9 q), .int .i64 0]) ∧ Gr w w') := d2
  have D3 : Hid (∀ w, Calls Try.prog 12 #[.agg (nw 9 s), .agg (nw 9 m)] w fun e w' => e = .returned (.tuple #[.agg (nw 9 sq), .agg (nw 9 r), .int .i64 0]) ∧ Gr w w') := d3
  have K : Hid (∀ w, Calls Try.prog 31 #[.agg (nw 9 m), .int .i64 570] w fun e w' => e = .returned (.agg (nw 9 m)) ∧ Gr w w') := ck
  have A2 : Hid (∀ w, Calls Try.prog 28 #[.agg (nw 9 p), .agg (nw 9 q)] w fun e w' => e = .returned (.tuple #[.agg (nw 9 t), .bool false]) ∧ Gr w w') := ca2
  have D4 : Hid (∀ w, Calls Try.prog 12 #[.agg (nw 9 t), .agg (nw 9 m)] w fun e w' => e = .returned (.tuple #[.agg (nw 9 tq), .agg (nw 9 r), .int .i64 0]) ∧ Gr w w') := d4
  have e1 := eqN_self 9 m
  have e2 := eqN_self 9 r
  clear cx cy ca d1 d2 d3 ck ca2 d4
  go_enter Try.func7, Try.ntmps7
  go_wp2_with (go_at_call 17; refine (awake4_any _).mono ?_; rintro e w' ⟨rfl, gaw, rfl⟩)
  refine wp_region_mix (by kernel_rfl) (by kernel_rfl) (RG _ (fun i => match i with | 0 => some (.pointer (some ⟨w.heap.size, 0, none⟩)) | 1 => some (.agg (nw 9 a)) | 2 => some (.agg (nw 9 x)) | 3 => some (.pointer (some ⟨w.heap.size + 1, 0, none⟩)) | 4 => some (.agg (nw 9 b)) | 5 => some (.agg (nw 9 y)) | _ => none) (fun i => match i with | 6 => some (nw 9 0) | 7 => some (nw 9 0) | _ => none) (fun i => match i with | 6 => some (8, nw 9 x) | 7 => some (9, nw 9 y) | _ => none)) (RG.start _ _ _ _ _ _) ?hs ?hf
  case hs =>
    intro listed vals a1 v1 i o hz hR hF ho hl hd
    have hks : ∀ (j k : Nat) (r : Array Value), (match j with | 6 => some (8, nw 9 x) | 7 => some (9, nw 9 y) | _ => (none : Option (Nat × Array Value))) = some (k, r) → (j = 6 ∧ k = 8) ∨ (j = 7 ∧ k = 9) := fun j k r h => by
      split at h <;> simp_all
    have hba : blk v1 (w.heap.size) = nw 9 a := (blk_of _ _ _ (hR.1.below.block (w.heap.size) (by simp [go_sem] <;> omega))).trans (by simp [go_sem])
    have hbb : blk v1 (w.heap.size + 1) = nw 9 b := (blk_of _ _ _ (hR.1.below.block (w.heap.size + 1) (by simp [go_sem] <;> omega))).trans (by simp [go_sem])
    have hbm : blk v1 (w.heap.size + 1 + 1) = nw 9 m := (blk_of _ _ _ (hR.1.below.block (w.heap.size + 1 + 1) (by simp [go_sem] <;> omega))).trans (by simp [go_sem])
    have hi : i < 10 := by simpa using (Array.getElem?_eq_some_iff.1 ho).1
    have hil : i < listed.size := by rw [hz]; simpa using hi
    obtain rfl | rfl | rfl | rfl | rfl | rfl | rfl | rfl | rfl | rfl : i = 0 ∨ i = 1 ∨ i = 2 ∨ i = 3 ∨ i = 4 ∨ i = 5 ∨ i = 6 ∨ i = 7 ∨ i = 8 ∨ i = 9 := by omega
    · obtain rfl := Option.some.inj ho
      have f0 := hF.old (s := 3) (v := .pointer (some ⟨w.heap.size, 0, none⟩)) (by kernel_rfl) rfl
      exact wp_val (.pointer (some ⟨w.heap.size, 0, none⟩)) (by simp [go_sem, f0]) ⟨_, rfl, RG.quiet 0 _ hil rfl rfl (fun j k r h => by have := hks j k r h; omega) (Gr.refl _) hR⟩
    · obtain rfl := Option.some.inj ho
      have l0 := hd ⟨0, .data⟩ (by simp) rfl
      have f0 := hF.at (s := 28) (i := 0) (by kernel_rfl) (by simp) l0
      rw [hR.2.1 0 _ l0 rfl] at f0
      exact wp_val (.agg (nw 9 a)) (by simp [go_sem, f0, hba]) ⟨_, rfl, RG.quiet 1 _ hil rfl rfl (fun j k r h => by have := hks j k r h; omega) (Gr.refl _) hR⟩
    · obtain rfl := Option.some.inj ho
      have l0 := hd ⟨1, .data⟩ (by simp) rfl
      have f0 := hF.at (s := 29) (i := 1) (by kernel_rfl) (by simp) l0
      rw [hR.2.1 1 _ l0 rfl] at f0
      exact wp_ret (.agg (nw 9 x)) (by simp [go_sem, f0]) (CX.out _) (fun w2 hg => ⟨_, rfl, RG.quiet 2 _ hil rfl rfl (fun j k r h => by have := hks j k r h; omega) hg hR⟩)
    · obtain rfl := Option.some.inj ho
      have f0 := hF.old (s := 4) (v := .pointer (some ⟨w.heap.size + 1, 0, none⟩)) (by kernel_rfl) rfl
      exact wp_val (.pointer (some ⟨w.heap.size + 1, 0, none⟩)) (by simp [go_sem, f0]) ⟨_, rfl, RG.quiet 3 _ hil rfl rfl (fun j k r h => by have := hks j k r h; omega) (Gr.refl _) hR⟩
    · obtain rfl := Option.some.inj ho
      have l0 := hd ⟨3, .data⟩ (by simp) rfl
      have f0 := hF.at (s := 31) (i := 3) (by kernel_rfl) (by simp) l0
      rw [hR.2.1 3 _ l0 rfl] at f0
      exact wp_val (.agg (nw 9 b)) (by simp [go_sem, f0, hbb]) ⟨_, rfl, RG.quiet 4 _ hil rfl rfl (fun j k r h => by have := hks j k r h; omega) (Gr.refl _) hR⟩
    · obtain rfl := Option.some.inj ho
      have l0 := hd ⟨4, .data⟩ (by simp) rfl
      have f0 := hF.at (s := 32) (i := 4) (by kernel_rfl) (by simp) l0
      rw [hR.2.1 4 _ l0 rfl] at f0
      exact wp_ret (.agg (nw 9 y)) (by simp [go_sem, f0]) (CY.out _) (fun w2 hg => ⟨_, rfl, RG.quiet 5 _ hil rfl rfl (fun j k r h => by have := hks j k r h; omega) hg hR⟩)
    · obtain rfl := Option.some.inj ho
      exact wp_val (.pointer (some ⟨v1.heap.size, 0, none⟩)) (w' := v1.alloc (.cells (nw 9 0) 25)) (by simp [go_sem]) ⟨_, rfl, RG.alloc 6 (nw 9 0) 25 hil hl rfl rfl (fun j k r h => by have := hks j k r h; omega) hR⟩
    · obtain rfl := Option.some.inj ho
      exact wp_val (.pointer (some ⟨v1.heap.size, 0, none⟩)) (w' := v1.alloc (.cells (nw 9 0) 25)) (by simp [go_sem]) ⟨_, rfl, RG.alloc 7 (nw 9 0) 25 hil hl rfl rfl (fun j k r h => by have := hks j k r h; omega) hR⟩
    · obtain rfl := Option.some.inj ho
      have l0 := hd ⟨6, .data⟩ (by simp) rfl
      have l1 := hd ⟨2, .data⟩ (by simp) rfl
      obtain ⟨B, h4, h5⟩ := hR.2.2.2
      obtain ⟨e1, e2, e3, e4, e5⟩ := h4 6 (nw 9 0) l0 rfl
      simp only [hl] at e5
      replace e5 : blk v1 (B 6) = nw 9 0 := e5
      have f0 := hF.at (s := 7) (i := 6) (by kernel_rfl) (by simp) l0
      rw [e1] at f0
      have f1 := hF.at (s := 30) (i := 2) (by kernel_rfl) (by simp) l1
      rw [hR.2.1 2 _ l1 rfl] at f1
      exact wp_skip (w' := setBlk v1 (B 6) (nw 9 x)) (by simp [go_sem, f0, f1, e4, e5]) ⟨undef, rfl, RG.store 8 6 (nw 9 0) (nw 9 x) (B 6) hil hl rfl rfl rfl l0 rfl (by rw [nw_size]; decide) e1 (fun k r h => by have := hks k _ r h; omega) hR⟩
    · obtain rfl := Option.some.inj ho
      have l0 := hd ⟨7, .data⟩ (by simp) rfl
      have l1 := hd ⟨5, .data⟩ (by simp) rfl
      obtain ⟨B, h4, h5⟩ := hR.2.2.2
      obtain ⟨e1, e2, e3, e4, e5⟩ := h4 7 (nw 9 0) l0 rfl
      simp only [hl] at e5
      replace e5 : blk v1 (B 7) = nw 9 0 := e5
      have f0 := hF.at (s := 8) (i := 7) (by kernel_rfl) (by simp) l0
      rw [e1] at f0
      have f1 := hF.at (s := 33) (i := 5) (by kernel_rfl) (by simp) l1
      rw [hR.2.1 5 _ l1 rfl] at f1
      exact wp_skip (w' := setBlk v1 (B 7) (nw 9 y)) (by simp [go_sem, f0, f1, e4, e5]) ⟨undef, rfl, RG.store 9 7 (nw 9 0) (nw 9 y) (B 7) hil hl rfl rfl rfl l0 rfl (by rw [nw_size]; decide) e1 (fun k r h => by have := hks k _ r h; omega) hR⟩
  case hf =>
    intro listed vals a1 v1 hall hR hF
    have hba : blk v1 (w.heap.size) = nw 9 a := (blk_of _ _ _ (hR.1.below.block (w.heap.size) (by simp [go_sem] <;> omega))).trans (by simp [go_sem])
    have phba : Pre (w.heap.size + 1) v1.heap.size := Nat.le_trans (show w.heap.size + 1 ≤ _ from by simp [go_sem] <;> omega) hR.1.below.size
    have hbb : blk v1 (w.heap.size + 1) = nw 9 b := (blk_of _ _ _ (hR.1.below.block (w.heap.size + 1) (by simp [go_sem] <;> omega))).trans (by simp [go_sem])
    have phbb : Pre (w.heap.size + 1 + 1) v1.heap.size := Nat.le_trans (show w.heap.size + 1 + 1 ≤ _ from by simp [go_sem] <;> omega) hR.1.below.size
    have hbm : blk v1 (w.heap.size + 1 + 1) = nw 9 m := (blk_of _ _ _ (hR.1.below.block (w.heap.size + 1 + 1) (by simp [go_sem] <;> omega))).trans (by simp [go_sem])
    have phbm : Pre (w.heap.size + 1 + 1 + 1) v1.heap.size := Nat.le_trans (show w.heap.size + 1 + 1 + 1 ≤ _ from by simp [go_sem] <;> omega) hR.1.below.size
    have hV := hR.2.1
    obtain ⟨B, h4, h5⟩ := hR.2.2.2
    have x0 := hV 0 _ (hall 0 (by simp)) rfl
    have x1 := hV 1 _ (hall 1 (by simp)) rfl
    have x2 := hV 2 _ (hall 2 (by simp)) rfl
    have x3 := hV 3 _ (hall 3 (by simp)) rfl
    have x4 := hV 4 _ (hall 4 (by simp)) rfl
    have x5 := hV 5 _ (hall 5 (by simp)) rfl
    obtain ⟨x6, q6, p6, z6, y6⟩ := h4 6 _ (hall 6 (by simp)) rfl
    simp only [hall 8 (by simp), if_true] at y6
    replace p6 : Pre (B 6 + 1) v1.heap.size := p6
    replace y6 : blk v1 (B 6) = nw 9 x := y6
    obtain ⟨x7, q7, p7, z7, y7⟩ := h4 7 _ (hall 7 (by simp)) rfl
    simp only [hall 9 (by simp), if_true] at y7
    replace p7 : Pre (B 7 + 1) v1.heap.size := p7
    replace y7 : blk v1 (B 7) = nw 9 y := y7
    have hb1 := hR.1
    rw [hF.final (by kernel_rfl) hall]
    simp only [putFrom, Act.put, List.setIfInBounds_toArray, List.set_cons_zero, List.set_cons_succ, x0, x1, x2, x3, x4, x5, x6, x7]
    generalize B 6 = b6 at *
    generalize B 7 = b7 at *
    clear hV h4 h5 hR hF hall x0 x1 x2 x3 x4 x5 x6 x7
    have HG : Hid (Gr w v1) := by show Gr w v1; refine Gr.trans ?_ hb1; exact (by repeat (first | exact Gr.refl _ | apply Gr.drewN | apply Gr.drew | apply Gr.alloc | apply Gr.gro))
    clear hb1
    go_wp2_with (first
      | (go_at_call_of 28 ((#[.agg (nw 9 x), .agg (nw 9 y)] : Array Value)); refine (A1.out _).mono ?_; rintro e w' ⟨rfl, gA1, rfl⟩)
      | (go_at_call_of 12 ((#[.agg (nw 9 x), .agg (nw 9 m)] : Array Value)); refine (D1.out _).mono ?_; rintro e w' ⟨rfl, gD1, rfl⟩)
      | (go_at_call_of 12 ((#[.agg (nw 9 y), .agg (nw 9 m)] : Array Value)); refine (D2.out _).mono ?_; rintro e w' ⟨rfl, gD2, rfl⟩)
      | (go_at_call_of 12 ((#[.agg (nw 9 s), .agg (nw 9 m)] : Array Value)); refine (D3.out _).mono ?_; rintro e w' ⟨rfl, gD3, rfl⟩)
      | (go_at_call_of 31 ((#[.agg (nw 9 m), .int .i64 570] : Array Value)); refine (K.out _).mono ?_; rintro e w' ⟨rfl, gK, rfl⟩)
      | (go_at_call_of 28 ((#[.agg (nw 9 p), .agg (nw 9 q)] : Array Value)); refine (A2.out _).mono ?_; rintro e w' ⟨rfl, gA2, rfl⟩)
      | (go_at_call_of 12 ((#[.agg (nw 9 t), .agg (nw 9 m)] : Array Value)); refine (D4.out _).mono ?_; rintro e w' ⟨rfl, gD4, rfl⟩)
      | (go_at_call 16; refine (num_any _ _).mono ?_; rintro e w' ⟨rfl, rfl⟩))
    go_ret
    exact ⟨rfl, by repeat (first | exact HG.out | apply Gr.drewN | apply Gr.drew | apply Gr.alloc | apply Gr.gro)⟩

theorem M_twice (k : Nat) (h : k + 1 = 64 * 9) : M = 2 * 2 ^ k := by
  have e : ∀ n, pw n = 2 ^ (64 * n) := fun _ => rfl
  rw [M, e, ← h, Nat.pow_succ, Nat.mul_comm]
theorem add_fits (x y : Nat) (hx : x < M) (hy : y < M) (h : x + y < M) (w : World) : Calls Try.prog 28 #[.agg (nw 9 x), .agg (nw 9 y)] w fun e w' => e = .returned (.tuple #[.agg (nw 9 (x + y)), .bool false]) ∧ Gr w w' := by
  have := add_any x y hx hy w
  rw [Nat.mod_eq_of_lt h, decide_eq_false (by omega)] at this
  exact this
theorem dsums_any (a b m : Nat) (hm : m < M) (w : World) :
    Calls Try.prog 7 #[.agg (nw 9 a), .agg (nw 9 b), .agg (nw 9 m)] w fun e w' => e = .returned (.bool true) ∧ Gr w w' := by
  obtain ⟨E, hE⟩ : ∃ E : Nat, E = 575 := ⟨_, rfl⟩
  have hEi : ((E : Nat) : Int) = 575 := by omega
  obtain ⟨G, hG⟩ : ∃ G : Nat, G = 570 := ⟨_, rfl⟩
  have hGi : ((G : Nat) : Int) = 570 := by omega
  have cx := fun w => natcut_any a E (by omega) w
  have cy := fun w => natcut_any b E (by omega) w
  have ck := fun w => natcut_any m G (by omega) w
  rw [hEi] at cx cy
  rw [hGi] at ck
  have hM2 := M_twice E (by omega)
  have hGE : 2 ^ G ≤ 2 ^ E := Nat.pow_le_pow_right (by decide) (by omega)
  have hx : a % 2 ^ E < 2 ^ E := Nat.mod_lt _ (Nat.two_pow_pos E)
  have hy : b % 2 ^ E < 2 ^ E := Nat.mod_lt _ (Nat.two_pow_pos E)
  have hkl : m % 2 ^ G < 2 ^ G := Nat.mod_lt _ (Nat.two_pow_pos G)
  generalize a % 2 ^ E = x at *
  generalize b % 2 ^ E = y at *
  have hxM : x < M := by omega
  have hyM : y < M := by omega
  have hsM : x + y < M := by omega
  have ca := fun w => add_fits x y hxM hyM hsM w
  by_cases h0 : m = 0
  · subst h0
    exact dsums_zero a b x y (x + y) cx cy ca w
  · have m0 : 0 < m := by omega
    have e0 : eqN 9 m 0 = false := by rw [eqN9 m 0 hm M_pos]; exact decide_eq_false h0
    have d1 := fun w => div_any x m hxM m0 hm w
    have d2 := fun w => div_any y m hyM m0 hm w
    have d3 := fun w => div_any (x + y) m hsM m0 hm w
    by_cases hk : m % 2 ^ G = m
    · rw [hk] at ck hkl
      have hp : x % m < m := Nat.mod_lt _ m0
      have hq : y % m < m := Nat.mod_lt _ m0
      have ht : x % m + y % m < M := by omega
      have d4 := fun w => div_any (x % m + y % m) m ht m0 hm w
      rw [← Nat.add_mod] at d4
      exact dsums_small a b m x y (x + y) _ _ _ _ _ _ (x % m + y % m) _ cx cy ca d1 d2 d3 ck (fun w => add_fits (x % m) (y % m) (by omega) (by omega) ht w) d4 e0 w
    · exact dsums_great a b m x y (x + y) _ _ _ _ _ _ (m % 2 ^ G) cx cy ca d1 d2 d3 ck e0 (by rw [eqN9 _ _ (by omega) hm]; exact decide_eq_false hk) w

end Go.Proofs.Ytbafjcbbiiipfaa
