/-
  The statement DivideSmall, walked: it answers true for every two numbers.
-/
import Derived.Test.YtbafjcbbiiipfaaDAw
import Derived.Test.YtbafjcbbiiipfaaSmB
namespace Go.Proofs.Ytbafjcbbiiipfaa
open Go.RowKit
attribute [local go_sem ↓] loadNat_is loadArr_is loadWide_is loadArrW_is storeNat_is storeWide_is
attribute [local go_sem] loadNat loadArr loadWide loadArrW storeNat storeWide idxArr fold9 fold18 nw_size nw_elem pre_self pre_1 pre_2 pre_3 pre_4 pre_5 pre_6 pre_7 pre_8 pre_9 pre_10 pre_11 pre_12 pre_13 pre_14 pre_15 pre_16 pre_17 pre_18 pre_19 pre_20 pre_21 pre_22 pre_23 pre_24 pre_25 pre_26 pre_27 pre_28 pre_29 pre_30 pre_31 pre_32 pre_33 pre_34 pre_35 pre_36 pre_37 pre_38 pre_39 pre_40 gro_size gro_drew gro_drewN drew_gro drewN_gro gro_gro blk_gro frz_gro blk_drew frz_drew blk_drewN frz_drewN blk_alloc_at frz_alloc_at blk_alloc frz_alloc cell_gro frozen_gro cell_alloc_pre frozen_alloc_pre setCell_drewN alloc_drewN setBlk_drew setBlk_drewN setBlk_alloc_at setBlk_alloc setBlk_gro setCell_gro setCell_alloc_pre size_setBlk size_setCell
attribute [local go_sem] nw_ext9 nw_ext18 eqArr9 eqArr18

attribute [local go_sem] loadNat2 loadArr2 loadWide2 loadK_nw ppre_1 ppre_2 ppre_3 ppre_4 ppre_5 ppre_6 ppre_7 ppre_8 ppre_9 ppre_10 ppre_11 ppre_12 ppre_13 ppre_14 ppre_15 ppre_16 ppre_17 ppre_18 ppre_19 ppre_20

attribute [local go_sem] eqN_self
attribute [local go_sem ↓] Go.wp_at_zero Go.wp_at_succ
attribute [local go_sem] blk_other

set_option maxRecDepth 100000 in
set_option maxHeartbeats 1600000 in
theorem dsmall_over (a b s : Nat) (ha : a < M) (ca : ∀ w, Calls Try.prog 28 #[.agg (nw 9 a), .agg (nw 9 b)] w fun e w' => e = .returned (.tuple #[.agg (nw 9 s), .bool true]) ∧ Gr w w') (w : World) :
    Calls Try.prog 9 #[.agg (nw 9 a), .agg (nw 9 b)] w fun e w' => e = .returned (.bool true) ∧ Gr w w' := by
  have O1 : Hid (∀ w, Calls Try.prog 30 #[.int .u64 1] w fun e w' => e = .returned (.agg (nw 9 1)) ∧ Gr w w') := fun w => one_any 1 (by decide) w
  have D1 : Hid (∀ w, Calls Try.prog 12 #[.agg (nw 9 a), .agg (nw 9 1)] w fun e w' => e = .returned (.tuple #[.agg (nw 9 a), .agg (nw 9 0), .int .i64 0]) ∧ Gr w w') := fun w => by
    have := div_any a 1 ha (by decide) (lt_M 1 (by decide)) w
    rw [Nat.div_one, Nat.mod_one] at this
    exact this
  have A : Hid (∀ w, Calls Try.prog 28 #[.agg (nw 9 a), .agg (nw 9 b)] w fun e w' => e = .returned (.tuple #[.agg (nw 9 s), .bool true]) ∧ Gr w w') := ca
  have e1 := eqN_self 9 a
  have e2 := eqN_self 9 0
  clear ca ha
  go_enter Try.func9, Try.ntmps9
  go_wp2_with (go_at_call 17; refine (awake4_any _).mono ?_; rintro e w' ⟨rfl, gaw, rfl⟩)
  refine wp_region_mix (by kernel_rfl) (by kernel_rfl) (RG _ (fun i => match i with | 0 => some (.agg (nw 9 a)) | 1 => some (.agg (nw 9 1)) | 2 => some (.tuple #[.agg (nw 9 a), .agg (nw 9 0), .int .i64 0]) | 3 => some (.tuple #[.agg (nw 9 a), .agg (nw 9 0), .int .i64 0]) | 4 => some (.agg (nw 9 a)) | 5 => some (.agg (nw 9 0)) | 6 => some (.int .i64 0) | 11 => some (.int .i64 0) | _ => none) (fun i => match i with | 7 => some (nw 9 0) | 8 => some (nw 9 0) | _ => none) (fun i => match i with | 7 => some (9, nw 9 a) | 8 => some (10, nw 9 0) | _ => none)) (RG.start _ _ _ _ _ _) ?hs ?hf
  case hs =>
    intro listed vals a1 v1 i o hz hR hF ho hl hd
    have hks : ∀ (j k : Nat) (r : Array Value), (match j with | 7 => some (9, nw 9 a) | 8 => some (10, nw 9 0) | _ => (none : Option (Nat × Array Value))) = some (k, r) → (j = 7 ∧ k = 9) ∨ (j = 8 ∧ k = 10) := fun j k r h => by
      split at h <;> simp_all
    have hba : blk v1 (w.heap.size) = nw 9 a := (blk_of _ _ _ (hR.1.below.block (w.heap.size) (by simp [go_sem] <;> omega))).trans (by simp [go_sem])
    have hbb : blk v1 (w.heap.size + 1) = nw 9 b := (blk_of _ _ _ (hR.1.below.block (w.heap.size + 1) (by simp [go_sem] <;> omega))).trans (by simp [go_sem])
    have hi : i < 12 := by simpa using (Array.getElem?_eq_some_iff.1 ho).1
    have hil : i < listed.size := by rw [hz]; simpa using hi
    obtain rfl | rfl | rfl | rfl | rfl | rfl | rfl | rfl | rfl | rfl | rfl | rfl : i = 0 ∨ i = 1 ∨ i = 2 ∨ i = 3 ∨ i = 4 ∨ i = 5 ∨ i = 6 ∨ i = 7 ∨ i = 8 ∨ i = 9 ∨ i = 10 ∨ i = 11 := by omega
    · obtain rfl := Option.some.inj ho
      have f0 := hF.old (s := 2) (v := .pointer (some ⟨w.heap.size, 0, none⟩)) (by kernel_rfl) rfl
      exact wp_val (.agg (nw 9 a)) (by simp [go_sem, f0, hba]) ⟨_, rfl, RG.quiet 0 _ hil rfl rfl (fun j k r h => by have := hks j k r h; omega) (Gr.refl _) hR⟩
    · obtain rfl := Option.some.inj ho
      exact wp_ret (.agg (nw 9 1)) (by simp [go_sem]) (O1.out _) (fun w2 hg => ⟨_, rfl, RG.quiet 1 _ hil rfl rfl (fun j k r h => by have := hks j k r h; omega) hg hR⟩)
    · obtain rfl := Option.some.inj ho
      have l0 := hd ⟨0, .data⟩ (by simp) rfl
      have f0 := hF.at (s := 16) (i := 0) (by kernel_rfl) (by simp) l0
      rw [hR.2.1 0 _ l0 rfl] at f0
      have l1 := hd ⟨1, .data⟩ (by simp) rfl
      have f1 := hF.at (s := 17) (i := 1) (by kernel_rfl) (by simp) l1
      rw [hR.2.1 1 _ l1 rfl] at f1
      exact wp_ret (.tuple #[.agg (nw 9 a), .agg (nw 9 0), .int .i64 0]) (by simp [go_sem, f0, f1]) (D1.out _) (fun w2 hg => ⟨_, rfl, RG.quiet 2 _ hil rfl rfl (fun j k r h => by have := hks j k r h; omega) hg hR⟩)
    · obtain rfl := Option.some.inj ho
      have l0 := hd ⟨2, .data⟩ (by simp) rfl
      have f0 := hF.at (s := 18) (i := 2) (by kernel_rfl) (by simp) l0
      rw [hR.2.1 2 _ l0 rfl] at f0
      exact wp_val (.tuple #[.agg (nw 9 a), .agg (nw 9 0), .int .i64 0]) (by simp [go_sem, f0]) ⟨_, rfl, RG.quiet 3 _ hil rfl rfl (fun j k r h => by have := hks j k r h; omega) (Gr.refl _) hR⟩
    · obtain rfl := Option.some.inj ho
      have l0 := hd ⟨3, .data⟩ (by simp) rfl
      have f0 := hF.at (s := 15) (i := 3) (by kernel_rfl) (by simp) l0
      rw [hR.2.1 3 _ l0 rfl] at f0
      exact wp_val (.agg (nw 9 a)) (by simp [go_sem, f0]) ⟨_, rfl, RG.quiet 4 _ hil rfl rfl (fun j k r h => by have := hks j k r h; omega) (Gr.refl _) hR⟩
    · obtain rfl := Option.some.inj ho
      have l0 := hd ⟨3, .data⟩ (by simp) rfl
      have f0 := hF.at (s := 15) (i := 3) (by kernel_rfl) (by simp) l0
      rw [hR.2.1 3 _ l0 rfl] at f0
      exact wp_val (.agg (nw 9 0)) (by simp [go_sem, f0]) ⟨_, rfl, RG.quiet 5 _ hil rfl rfl (fun j k r h => by have := hks j k r h; omega) (Gr.refl _) hR⟩
    · obtain rfl := Option.some.inj ho
      have l0 := hd ⟨3, .data⟩ (by simp) rfl
      have f0 := hF.at (s := 15) (i := 3) (by kernel_rfl) (by simp) l0
      rw [hR.2.1 3 _ l0 rfl] at f0
      exact wp_val (.int .i64 0) (by simp [go_sem, f0]) ⟨_, rfl, RG.quiet 6 _ hil rfl rfl (fun j k r h => by have := hks j k r h; omega) (Gr.refl _) hR⟩
    · obtain rfl := Option.some.inj ho
      exact wp_val (.pointer (some ⟨v1.heap.size, 0, none⟩)) (w' := v1.alloc (.cells (nw 9 0) 25)) (by simp [go_sem]) ⟨_, rfl, RG.alloc 7 (nw 9 0) 25 hil hl rfl rfl (fun j k r h => by have := hks j k r h; omega) hR⟩
    · obtain rfl := Option.some.inj ho
      exact wp_val (.pointer (some ⟨v1.heap.size, 0, none⟩)) (w' := v1.alloc (.cells (nw 9 0) 25)) (by simp [go_sem]) ⟨_, rfl, RG.alloc 8 (nw 9 0) 25 hil hl rfl rfl (fun j k r h => by have := hks j k r h; omega) hR⟩
    · obtain rfl := Option.some.inj ho
      have l0 := hd ⟨7, .data⟩ (by simp) rfl
      have l1 := hd ⟨4, .data⟩ (by simp) rfl
      obtain ⟨B, h4, h5⟩ := hR.2.2.2
      obtain ⟨e1, e2, e3, e4, e5⟩ := h4 7 (nw 9 0) l0 rfl
      simp only [hl] at e5
      replace e5 : blk v1 (B 7) = nw 9 0 := e5
      have f0 := hF.at (s := 5) (i := 7) (by kernel_rfl) (by simp) l0
      rw [e1] at f0
      have f1 := hF.at (s := 19) (i := 4) (by kernel_rfl) (by simp) l1
      rw [hR.2.1 4 _ l1 rfl] at f1
      exact wp_skip (w' := setBlk v1 (B 7) (nw 9 a)) (by simp [go_sem, f0, f1, e4, e5]) ⟨undef, rfl, RG.store 9 7 (nw 9 0) (nw 9 a) (B 7) hil hl rfl rfl rfl l0 rfl (by rw [nw_size]; decide) e1 (fun k r h => by have := hks k _ r h; omega) hR⟩
    · obtain rfl := Option.some.inj ho
      have l0 := hd ⟨8, .data⟩ (by simp) rfl
      have l1 := hd ⟨5, .data⟩ (by simp) rfl
      obtain ⟨B, h4, h5⟩ := hR.2.2.2
      obtain ⟨e1, e2, e3, e4, e5⟩ := h4 8 (nw 9 0) l0 rfl
      simp only [hl] at e5
      replace e5 : blk v1 (B 8) = nw 9 0 := e5
      have f0 := hF.at (s := 6) (i := 8) (by kernel_rfl) (by simp) l0
      rw [e1] at f0
      have f1 := hF.at (s := 20) (i := 5) (by kernel_rfl) (by simp) l1
      rw [hR.2.1 5 _ l1 rfl] at f1
      exact wp_skip (w' := setBlk v1 (B 8) (nw 9 0)) (by simp [go_sem, f0, f1, e4, e5]) ⟨undef, rfl, RG.store 10 8 (nw 9 0) (nw 9 0) (B 8) hil hl rfl rfl rfl l0 rfl (by rw [nw_size]; decide) e1 (fun k r h => by have := hks k _ r h; omega) hR⟩
    · obtain rfl := Option.some.inj ho
      have l0 := hd ⟨6, .data⟩ (by simp) rfl
      have f0 := hF.at (s := 21) (i := 6) (by kernel_rfl) (by simp) l0
      rw [hR.2.1 6 _ l0 rfl] at f0
      exact wp_val (.int .i64 0) (by simp [go_sem, f0]) ⟨_, rfl, RG.quiet 11 _ hil rfl rfl (fun j k r h => by have := hks j k r h; omega) (Gr.refl _) hR⟩
  case hf =>
    intro listed vals a1 v1 hall hR hF
    have hba : blk v1 (w.heap.size) = nw 9 a := (blk_of _ _ _ (hR.1.below.block (w.heap.size) (by simp [go_sem] <;> omega))).trans (by simp [go_sem])
    have phba : Pre (w.heap.size + 1) v1.heap.size := Nat.le_trans (show w.heap.size + 1 ≤ _ from by simp [go_sem] <;> omega) hR.1.below.size
    have hbb : blk v1 (w.heap.size + 1) = nw 9 b := (blk_of _ _ _ (hR.1.below.block (w.heap.size + 1) (by simp [go_sem] <;> omega))).trans (by simp [go_sem])
    have phbb : Pre (w.heap.size + 1 + 1) v1.heap.size := Nat.le_trans (show w.heap.size + 1 + 1 ≤ _ from by simp [go_sem] <;> omega) hR.1.below.size
    have hV := hR.2.1
    obtain ⟨B, h4, h5⟩ := hR.2.2.2
    have x0 := hV 0 _ (hall 0 (by simp)) rfl
    have x1 := hV 1 _ (hall 1 (by simp)) rfl
    have x2 := hV 2 _ (hall 2 (by simp)) rfl
    have x3 := hV 3 _ (hall 3 (by simp)) rfl
    have x4 := hV 4 _ (hall 4 (by simp)) rfl
    have x5 := hV 5 _ (hall 5 (by simp)) rfl
    have x6 := hV 6 _ (hall 6 (by simp)) rfl
    have x11 := hV 11 _ (hall 11 (by simp)) rfl
    obtain ⟨x7, q7, p7, z7, y7⟩ := h4 7 _ (hall 7 (by simp)) rfl
    simp only [hall 9 (by simp), if_true] at y7
    replace p7 : Pre (B 7 + 1) v1.heap.size := p7
    replace y7 : blk v1 (B 7) = nw 9 a := y7
    obtain ⟨x8, q8, p8, z8, y8⟩ := h4 8 _ (hall 8 (by simp)) rfl
    simp only [hall 10 (by simp), if_true] at y8
    replace p8 : Pre (B 8 + 1) v1.heap.size := p8
    replace y8 : blk v1 (B 8) = nw 9 0 := y8
    have hb1 := hR.1
    rw [hF.final (by kernel_rfl) hall]
    simp only [putFrom, Act.put, List.setIfInBounds_toArray, List.set_cons_zero, List.set_cons_succ, x0, x1, x2, x3, x4, x5, x6, x11, x7, x8]
    generalize B 7 = b7 at *
    generalize B 8 = b8 at *
    clear hV h4 h5 hR hF hall x0 x1 x2 x3 x4 x5 x6 x11 x7 x8
    have HG : Hid (Gr w v1) := by show Gr w v1; refine Gr.trans ?_ hb1; exact (by repeat (first | exact Gr.refl _ | apply Gr.drewN | apply Gr.drew | apply Gr.alloc | apply Gr.gro))
    clear hb1
    go_wp2_with (first
      | (go_at_call 28; refine (A.out _).mono ?_; rintro e w' ⟨rfl, gA, rfl⟩)
      | (go_at_call 16; refine (num_any _ _).mono ?_; rintro e w' ⟨rfl, rfl⟩))
    go_ret
    exact ⟨rfl, by repeat (first | exact HG.out | apply Gr.drewN | apply Gr.drew | apply Gr.alloc | apply Gr.gro)⟩

set_option maxRecDepth 100000 in
set_option maxHeartbeats 1600000 in
theorem dsmall_none (a b : Nat) (ha : a < M) (ca : ∀ w, Calls Try.prog 28 #[.agg (nw 9 a), .agg (nw 9 b)] w fun e w' => e = .returned (.tuple #[.agg (nw 9 a), .bool false]) ∧ Gr w w') (cz : ∀ w, Calls Try.prog 29 #[.agg (nw 9 a), .agg (nw 9 a)] w fun e w' => e = .returned (.int .i64 0) ∧ Gr w w') (w : World) :
    Calls Try.prog 9 #[.agg (nw 9 a), .agg (nw 9 b)] w fun e w' => e = .returned (.bool true) ∧ Gr w w' := by
  have O1 : Hid (∀ w, Calls Try.prog 30 #[.int .u64 1] w fun e w' => e = .returned (.agg (nw 9 1)) ∧ Gr w w') := fun w => one_any 1 (by decide) w
  have D1 : Hid (∀ w, Calls Try.prog 12 #[.agg (nw 9 a), .agg (nw 9 1)] w fun e w' => e = .returned (.tuple #[.agg (nw 9 a), .agg (nw 9 0), .int .i64 0]) ∧ Gr w w') := fun w => by
    have := div_any a 1 ha (by decide) (lt_M 1 (by decide)) w
    rw [Nat.div_one, Nat.mod_one] at this
    exact this
  have A : Hid (∀ w, Calls Try.prog 28 #[.agg (nw 9 a), .agg (nw 9 b)] w fun e w' => e = .returned (.tuple #[.agg (nw 9 a), .bool false]) ∧ Gr w w') := ca
  have Z : Hid (∀ w, Calls Try.prog 29 #[.agg (nw 9 a), .agg (nw 9 a)] w fun e w' => e = .returned (.int .i64 0) ∧ Gr w w') := cz
  have e1 := eqN_self 9 a
  have e2 := eqN_self 9 0
  clear ca cz ha
  go_enter Try.func9, Try.ntmps9
  go_wp2_with (go_at_call 17; refine (awake4_any _).mono ?_; rintro e w' ⟨rfl, gaw, rfl⟩)
  refine wp_region_mix (by kernel_rfl) (by kernel_rfl) (RG _ (fun i => match i with | 0 => some (.agg (nw 9 a)) | 1 => some (.agg (nw 9 1)) | 2 => some (.tuple #[.agg (nw 9 a), .agg (nw 9 0), .int .i64 0]) | 3 => some (.tuple #[.agg (nw 9 a), .agg (nw 9 0), .int .i64 0]) | 4 => some (.agg (nw 9 a)) | 5 => some (.agg (nw 9 0)) | 6 => some (.int .i64 0) | 11 => some (.int .i64 0) | _ => none) (fun i => match i with | 7 => some (nw 9 0) | 8 => some (nw 9 0) | _ => none) (fun i => match i with | 7 => some (9, nw 9 a) | 8 => some (10, nw 9 0) | _ => none)) (RG.start _ _ _ _ _ _) ?hs ?hf
  case hs =>
    intro listed vals a1 v1 i o hz hR hF ho hl hd
    have hks : ∀ (j k : Nat) (r : Array Value), (match j with | 7 => some (9, nw 9 a) | 8 => some (10, nw 9 0) | _ => (none : Option (Nat × Array Value))) = some (k, r) → (j = 7 ∧ k = 9) ∨ (j = 8 ∧ k = 10) := fun j k r h => by
      split at h <;> simp_all
    have hba : blk v1 (w.heap.size) = nw 9 a := (blk_of _ _ _ (hR.1.below.block (w.heap.size) (by simp [go_sem] <;> omega))).trans (by simp [go_sem])
    have hbb : blk v1 (w.heap.size + 1) = nw 9 b := (blk_of _ _ _ (hR.1.below.block (w.heap.size + 1) (by simp [go_sem] <;> omega))).trans (by simp [go_sem])
    have hi : i < 12 := by simpa using (Array.getElem?_eq_some_iff.1 ho).1
    have hil : i < listed.size := by rw [hz]; simpa using hi
    obtain rfl | rfl | rfl | rfl | rfl | rfl | rfl | rfl | rfl | rfl | rfl | rfl : i = 0 ∨ i = 1 ∨ i = 2 ∨ i = 3 ∨ i = 4 ∨ i = 5 ∨ i = 6 ∨ i = 7 ∨ i = 8 ∨ i = 9 ∨ i = 10 ∨ i = 11 := by omega
    · obtain rfl := Option.some.inj ho
      have f0 := hF.old (s := 2) (v := .pointer (some ⟨w.heap.size, 0, none⟩)) (by kernel_rfl) rfl
      exact wp_val (.agg (nw 9 a)) (by simp [go_sem, f0, hba]) ⟨_, rfl, RG.quiet 0 _ hil rfl rfl (fun j k r h => by have := hks j k r h; omega) (Gr.refl _) hR⟩
    · obtain rfl := Option.some.inj ho
      exact wp_ret (.agg (nw 9 1)) (by simp [go_sem]) (O1.out _) (fun w2 hg => ⟨_, rfl, RG.quiet 1 _ hil rfl rfl (fun j k r h => by have := hks j k r h; omega) hg hR⟩)
    · obtain rfl := Option.some.inj ho
      have l0 := hd ⟨0, .data⟩ (by simp) rfl
      have f0 := hF.at (s := 16) (i := 0) (by kernel_rfl) (by simp) l0
      rw [hR.2.1 0 _ l0 rfl] at f0
      have l1 := hd ⟨1, .data⟩ (by simp) rfl
      have f1 := hF.at (s := 17) (i := 1) (by kernel_rfl) (by simp) l1
      rw [hR.2.1 1 _ l1 rfl] at f1
      exact wp_ret (.tuple #[.agg (nw 9 a), .agg (nw 9 0), .int .i64 0]) (by simp [go_sem, f0, f1]) (D1.out _) (fun w2 hg => ⟨_, rfl, RG.quiet 2 _ hil rfl rfl (fun j k r h => by have := hks j k r h; omega) hg hR⟩)
    · obtain rfl := Option.some.inj ho
      have l0 := hd ⟨2, .data⟩ (by simp) rfl
      have f0 := hF.at (s := 18) (i := 2) (by kernel_rfl) (by simp) l0
      rw [hR.2.1 2 _ l0 rfl] at f0
      exact wp_val (.tuple #[.agg (nw 9 a), .agg (nw 9 0), .int .i64 0]) (by simp [go_sem, f0]) ⟨_, rfl, RG.quiet 3 _ hil rfl rfl (fun j k r h => by have := hks j k r h; omega) (Gr.refl _) hR⟩
    · obtain rfl := Option.some.inj ho
      have l0 := hd ⟨3, .data⟩ (by simp) rfl
      have f0 := hF.at (s := 15) (i := 3) (by kernel_rfl) (by simp) l0
      rw [hR.2.1 3 _ l0 rfl] at f0
      exact wp_val (.agg (nw 9 a)) (by simp [go_sem, f0]) ⟨_, rfl, RG.quiet 4 _ hil rfl rfl (fun j k r h => by have := hks j k r h; omega) (Gr.refl _) hR⟩
    · obtain rfl := Option.some.inj ho
      have l0 := hd ⟨3, .data⟩ (by simp) rfl
      have f0 := hF.at (s := 15) (i := 3) (by kernel_rfl) (by simp) l0
      rw [hR.2.1 3 _ l0 rfl] at f0
      exact wp_val (.agg (nw 9 0)) (by simp [go_sem, f0]) ⟨_, rfl, RG.quiet 5 _ hil rfl rfl (fun j k r h => by have := hks j k r h; omega) (Gr.refl _) hR⟩
    · obtain rfl := Option.some.inj ho
      have l0 := hd ⟨3, .data⟩ (by simp) rfl
      have f0 := hF.at (s := 15) (i := 3) (by kernel_rfl) (by simp) l0
      rw [hR.2.1 3 _ l0 rfl] at f0
      exact wp_val (.int .i64 0) (by simp [go_sem, f0]) ⟨_, rfl, RG.quiet 6 _ hil rfl rfl (fun j k r h => by have := hks j k r h; omega) (Gr.refl _) hR⟩
    · obtain rfl := Option.some.inj ho
      exact wp_val (.pointer (some ⟨v1.heap.size, 0, none⟩)) (w' := v1.alloc (.cells (nw 9 0) 25)) (by simp [go_sem]) ⟨_, rfl, RG.alloc 7 (nw 9 0) 25 hil hl rfl rfl (fun j k r h => by have := hks j k r h; omega) hR⟩
    · obtain rfl := Option.some.inj ho
      exact wp_val (.pointer (some ⟨v1.heap.size, 0, none⟩)) (w' := v1.alloc (.cells (nw 9 0) 25)) (by simp [go_sem]) ⟨_, rfl, RG.alloc 8 (nw 9 0) 25 hil hl rfl rfl (fun j k r h => by have := hks j k r h; omega) hR⟩
    · obtain rfl := Option.some.inj ho
      have l0 := hd ⟨7, .data⟩ (by simp) rfl
      have l1 := hd ⟨4, .data⟩ (by simp) rfl
      obtain ⟨B, h4, h5⟩ := hR.2.2.2
      obtain ⟨e1, e2, e3, e4, e5⟩ := h4 7 (nw 9 0) l0 rfl
      simp only [hl] at e5
      replace e5 : blk v1 (B 7) = nw 9 0 := e5
      have f0 := hF.at (s := 5) (i := 7) (by kernel_rfl) (by simp) l0
      rw [e1] at f0
      have f1 := hF.at (s := 19) (i := 4) (by kernel_rfl) (by simp) l1
      rw [hR.2.1 4 _ l1 rfl] at f1
      exact wp_skip (w' := setBlk v1 (B 7) (nw 9 a)) (by simp [go_sem, f0, f1, e4, e5]) ⟨undef, rfl, RG.store 9 7 (nw 9 0) (nw 9 a) (B 7) hil hl rfl rfl rfl l0 rfl (by rw [nw_size]; decide) e1 (fun k r h => by have := hks k _ r h; omega) hR⟩
    · obtain rfl := Option.some.inj ho
      have l0 := hd ⟨8, .data⟩ (by simp) rfl
      have l1 := hd ⟨5, .data⟩ (by simp) rfl
      obtain ⟨B, h4, h5⟩ := hR.2.2.2
      obtain ⟨e1, e2, e3, e4, e5⟩ := h4 8 (nw 9 0) l0 rfl
      simp only [hl] at e5
      replace e5 : blk v1 (B 8) = nw 9 0 := e5
      have f0 := hF.at (s := 6) (i := 8) (by kernel_rfl) (by simp) l0
      rw [e1] at f0
      have f1 := hF.at (s := 20) (i := 5) (by kernel_rfl) (by simp) l1
      rw [hR.2.1 5 _ l1 rfl] at f1
      exact wp_skip (w' := setBlk v1 (B 8) (nw 9 0)) (by simp [go_sem, f0, f1, e4, e5]) ⟨undef, rfl, RG.store 10 8 (nw 9 0) (nw 9 0) (B 8) hil hl rfl rfl rfl l0 rfl (by rw [nw_size]; decide) e1 (fun k r h => by have := hks k _ r h; omega) hR⟩
    · obtain rfl := Option.some.inj ho
      have l0 := hd ⟨6, .data⟩ (by simp) rfl
      have f0 := hF.at (s := 21) (i := 6) (by kernel_rfl) (by simp) l0
      rw [hR.2.1 6 _ l0 rfl] at f0
      exact wp_val (.int .i64 0) (by simp [go_sem, f0]) ⟨_, rfl, RG.quiet 11 _ hil rfl rfl (fun j k r h => by have := hks j k r h; omega) (Gr.refl _) hR⟩
  case hf =>
    intro listed vals a1 v1 hall hR hF
    have hba : blk v1 (w.heap.size) = nw 9 a := (blk_of _ _ _ (hR.1.below.block (w.heap.size) (by simp [go_sem] <;> omega))).trans (by simp [go_sem])
    have phba : Pre (w.heap.size + 1) v1.heap.size := Nat.le_trans (show w.heap.size + 1 ≤ _ from by simp [go_sem] <;> omega) hR.1.below.size
    have hbb : blk v1 (w.heap.size + 1) = nw 9 b := (blk_of _ _ _ (hR.1.below.block (w.heap.size + 1) (by simp [go_sem] <;> omega))).trans (by simp [go_sem])
    have phbb : Pre (w.heap.size + 1 + 1) v1.heap.size := Nat.le_trans (show w.heap.size + 1 + 1 ≤ _ from by simp [go_sem] <;> omega) hR.1.below.size
    have hV := hR.2.1
    obtain ⟨B, h4, h5⟩ := hR.2.2.2
    have x0 := hV 0 _ (hall 0 (by simp)) rfl
    have x1 := hV 1 _ (hall 1 (by simp)) rfl
    have x2 := hV 2 _ (hall 2 (by simp)) rfl
    have x3 := hV 3 _ (hall 3 (by simp)) rfl
    have x4 := hV 4 _ (hall 4 (by simp)) rfl
    have x5 := hV 5 _ (hall 5 (by simp)) rfl
    have x6 := hV 6 _ (hall 6 (by simp)) rfl
    have x11 := hV 11 _ (hall 11 (by simp)) rfl
    obtain ⟨x7, q7, p7, z7, y7⟩ := h4 7 _ (hall 7 (by simp)) rfl
    simp only [hall 9 (by simp), if_true] at y7
    replace p7 : Pre (B 7 + 1) v1.heap.size := p7
    replace y7 : blk v1 (B 7) = nw 9 a := y7
    obtain ⟨x8, q8, p8, z8, y8⟩ := h4 8 _ (hall 8 (by simp)) rfl
    simp only [hall 10 (by simp), if_true] at y8
    replace p8 : Pre (B 8 + 1) v1.heap.size := p8
    replace y8 : blk v1 (B 8) = nw 9 0 := y8
    have hb1 := hR.1
    rw [hF.final (by kernel_rfl) hall]
    simp only [putFrom, Act.put, List.setIfInBounds_toArray, List.set_cons_zero, List.set_cons_succ, x0, x1, x2, x3, x4, x5, x6, x11, x7, x8]
    generalize B 7 = b7 at *
    generalize B 8 = b8 at *
    clear hV h4 h5 hR hF hall x0 x1 x2 x3 x4 x5 x6 x11 x7 x8
    have HG : Hid (Gr w v1) := by show Gr w v1; refine Gr.trans ?_ hb1; exact (by repeat (first | exact Gr.refl _ | apply Gr.drewN | apply Gr.drew | apply Gr.alloc | apply Gr.gro))
    clear hb1
    go_wp2_with (first
      | (go_at_call 28; refine (A.out _).mono ?_; rintro e w' ⟨rfl, gA, rfl⟩)
      | (go_at_call 29; refine (Z.out _).mono ?_; rintro e w' ⟨rfl, gZ, rfl⟩)
      | (go_at_call 16; refine (num_any _ _).mono ?_; rintro e w' ⟨rfl, rfl⟩))
    go_ret
    exact ⟨rfl, by repeat (first | exact HG.out | apply Gr.drewN | apply Gr.drew | apply Gr.alloc | apply Gr.gro)⟩

set_option maxRecDepth 100000 in
set_option maxHeartbeats 1600000 in
theorem dsmall_more (a b s : Nat) (ha : a < M) (ca : ∀ w, Calls Try.prog 28 #[.agg (nw 9 a), .agg (nw 9 b)] w fun e w' => e = .returned (.tuple #[.agg (nw 9 s), .bool false]) ∧ Gr w w') (cz : ∀ w, Calls Try.prog 29 #[.agg (nw 9 s), .agg (nw 9 a)] w fun e w' => e = .returned (.int .i64 1) ∧ Gr w w') (cd : ∀ w, Calls Try.prog 12 #[.agg (nw 9 a), .agg (nw 9 s)] w fun e w' => e = .returned (.tuple #[.agg (nw 9 0), .agg (nw 9 a), .int .i64 0]) ∧ Gr w w') (w : World) :
    Calls Try.prog 9 #[.agg (nw 9 a), .agg (nw 9 b)] w fun e w' => e = .returned (.bool true) ∧ Gr w w' := by
  have O1 : Hid (∀ w, Calls Try.prog 30 #[.int .u64 1] w fun e w' => e = .returned (.agg (nw 9 1)) ∧ Gr w w') := fun w => one_any 1 (by decide) w
  have D1 : Hid (∀ w, Calls Try.prog 12 #[.agg (nw 9 a), .agg (nw 9 1)] w fun e w' => e = .returned (.tuple #[.agg (nw 9 a), .agg (nw 9 0), .int .i64 0]) ∧ Gr w w') := fun w => by
    have := div_any a 1 ha (by decide) (lt_M 1 (by decide)) w
    rw [Nat.div_one, Nat.mod_one] at this
    exact this
  have A : Hid (∀ w, Calls Try.prog 28 #[.agg (nw 9 a), .agg (nw 9 b)] w fun e w' => e = .returned (.tuple #[.agg (nw 9 s), .bool false]) ∧ Gr w w') := ca
  have Z : Hid (∀ w, Calls Try.prog 29 #[.agg (nw 9 s), .agg (nw 9 a)] w fun e w' => e = .returned (.int .i64 1) ∧ Gr w w') := cz
  have D2 : Hid (∀ w, Calls Try.prog 12 #[.agg (nw 9 a), .agg (nw 9 s)] w fun e w' => e = .returned (.tuple #[.agg (nw 9 0), .agg (nw 9 a), .int .i64 0]) ∧ Gr w w') := cd
  have e1 := eqN_self 9 a
  have e2 := eqN_self 9 0
  clear ca cz cd ha
  go_enter Try.func9, Try.ntmps9
  go_wp2_with (go_at_call 17; refine (awake4_any _).mono ?_; rintro e w' ⟨rfl, gaw, rfl⟩)
  refine wp_region_mix (by kernel_rfl) (by kernel_rfl) (RG _ (fun i => match i with | 0 => some (.agg (nw 9 a)) | 1 => some (.agg (nw 9 1)) | 2 => some (.tuple #[.agg (nw 9 a), .agg (nw 9 0), .int .i64 0]) | 3 => some (.tuple #[.agg (nw 9 a), .agg (nw 9 0), .int .i64 0]) | 4 => some (.agg (nw 9 a)) | 5 => some (.agg (nw 9 0)) | 6 => some (.int .i64 0) | 11 => some (.int .i64 0) | _ => none) (fun i => match i with | 7 => some (nw 9 0) | 8 => some (nw 9 0) | _ => none) (fun i => match i with | 7 => some (9, nw 9 a) | 8 => some (10, nw 9 0) | _ => none)) (RG.start _ _ _ _ _ _) ?hs ?hf
  case hs =>
    intro listed vals a1 v1 i o hz hR hF ho hl hd
    have hks : ∀ (j k : Nat) (r : Array Value), (match j with | 7 => some (9, nw 9 a) | 8 => some (10, nw 9 0) | _ => (none : Option (Nat × Array Value))) = some (k, r) → (j = 7 ∧ k = 9) ∨ (j = 8 ∧ k = 10) := fun j k r h => by
      split at h <;> simp_all
    have hba : blk v1 (w.heap.size) = nw 9 a := (blk_of _ _ _ (hR.1.below.block (w.heap.size) (by simp [go_sem] <;> omega))).trans (by simp [go_sem])
    have hbb : blk v1 (w.heap.size + 1) = nw 9 b := (blk_of _ _ _ (hR.1.below.block (w.heap.size + 1) (by simp [go_sem] <;> omega))).trans (by simp [go_sem])
    have hi : i < 12 := by simpa using (Array.getElem?_eq_some_iff.1 ho).1
    have hil : i < listed.size := by rw [hz]; simpa using hi
    obtain rfl | rfl | rfl | rfl | rfl | rfl | rfl | rfl | rfl | rfl | rfl | rfl : i = 0 ∨ i = 1 ∨ i = 2 ∨ i = 3 ∨ i = 4 ∨ i = 5 ∨ i = 6 ∨ i = 7 ∨ i = 8 ∨ i = 9 ∨ i = 10 ∨ i = 11 := by omega
    · obtain rfl := Option.some.inj ho
      have f0 := hF.old (s := 2) (v := .pointer (some ⟨w.heap.size, 0, none⟩)) (by kernel_rfl) rfl
      exact wp_val (.agg (nw 9 a)) (by simp [go_sem, f0, hba]) ⟨_, rfl, RG.quiet 0 _ hil rfl rfl (fun j k r h => by have := hks j k r h; omega) (Gr.refl _) hR⟩
    · obtain rfl := Option.some.inj ho
      exact wp_ret (.agg (nw 9 1)) (by simp [go_sem]) (O1.out _) (fun w2 hg => ⟨_, rfl, RG.quiet 1 _ hil rfl rfl (fun j k r h => by have := hks j k r h; omega) hg hR⟩)
    · obtain rfl := Option.some.inj ho
      have l0 := hd ⟨0, .data⟩ (by simp) rfl
      have f0 := hF.at (s := 16) (i := 0) (by kernel_rfl) (by simp) l0
      rw [hR.2.1 0 _ l0 rfl] at f0
      have l1 := hd ⟨1, .data⟩ (by simp) rfl
      have f1 := hF.at (s := 17) (i := 1) (by kernel_rfl) (by simp) l1
      rw [hR.2.1 1 _ l1 rfl] at f1
      exact wp_ret (.tuple #[.agg (nw 9 a), .agg (nw 9 0), .int .i64 0]) (by simp [go_sem, f0, f1]) (D1.out _) (fun w2 hg => ⟨_, rfl, RG.quiet 2 _ hil rfl rfl (fun j k r h => by have := hks j k r h; omega) hg hR⟩)
    · obtain rfl := Option.some.inj ho
      have l0 := hd ⟨2, .data⟩ (by simp) rfl
      have f0 := hF.at (s := 18) (i := 2) (by kernel_rfl) (by simp) l0
      rw [hR.2.1 2 _ l0 rfl] at f0
      exact wp_val (.tuple #[.agg (nw 9 a), .agg (nw 9 0), .int .i64 0]) (by simp [go_sem, f0]) ⟨_, rfl, RG.quiet 3 _ hil rfl rfl (fun j k r h => by have := hks j k r h; omega) (Gr.refl _) hR⟩
    · obtain rfl := Option.some.inj ho
      have l0 := hd ⟨3, .data⟩ (by simp) rfl
      have f0 := hF.at (s := 15) (i := 3) (by kernel_rfl) (by simp) l0
      rw [hR.2.1 3 _ l0 rfl] at f0
      exact wp_val (.agg (nw 9 a)) (by simp [go_sem, f0]) ⟨_, rfl, RG.quiet 4 _ hil rfl rfl (fun j k r h => by have := hks j k r h; omega) (Gr.refl _) hR⟩
    · obtain rfl := Option.some.inj ho
      have l0 := hd ⟨3, .data⟩ (by simp) rfl
      have f0 := hF.at (s := 15) (i := 3) (by kernel_rfl) (by simp) l0
      rw [hR.2.1 3 _ l0 rfl] at f0
      exact wp_val (.agg (nw 9 0)) (by simp [go_sem, f0]) ⟨_, rfl, RG.quiet 5 _ hil rfl rfl (fun j k r h => by have := hks j k r h; omega) (Gr.refl _) hR⟩
    · obtain rfl := Option.some.inj ho
      have l0 := hd ⟨3, .data⟩ (by simp) rfl
      have f0 := hF.at (s := 15) (i := 3) (by kernel_rfl) (by simp) l0
      rw [hR.2.1 3 _ l0 rfl] at f0
      exact wp_val (.int .i64 0) (by simp [go_sem, f0]) ⟨_, rfl, RG.quiet 6 _ hil rfl rfl (fun j k r h => by have := hks j k r h; omega) (Gr.refl _) hR⟩
    · obtain rfl := Option.some.inj ho
      exact wp_val (.pointer (some ⟨v1.heap.size, 0, none⟩)) (w' := v1.alloc (.cells (nw 9 0) 25)) (by simp [go_sem]) ⟨_, rfl, RG.alloc 7 (nw 9 0) 25 hil hl rfl rfl (fun j k r h => by have := hks j k r h; omega) hR⟩
    · obtain rfl := Option.some.inj ho
      exact wp_val (.pointer (some ⟨v1.heap.size, 0, none⟩)) (w' := v1.alloc (.cells (nw 9 0) 25)) (by simp [go_sem]) ⟨_, rfl, RG.alloc 8 (nw 9 0) 25 hil hl rfl rfl (fun j k r h => by have := hks j k r h; omega) hR⟩
    · obtain rfl := Option.some.inj ho
      have l0 := hd ⟨7, .data⟩ (by simp) rfl
      have l1 := hd ⟨4, .data⟩ (by simp) rfl
      obtain ⟨B, h4, h5⟩ := hR.2.2.2
      obtain ⟨e1, e2, e3, e4, e5⟩ := h4 7 (nw 9 0) l0 rfl
      simp only [hl] at e5
      replace e5 : blk v1 (B 7) = nw 9 0 := e5
      have f0 := hF.at (s := 5) (i := 7) (by kernel_rfl) (by simp) l0
      rw [e1] at f0
      have f1 := hF.at (s := 19) (i := 4) (by kernel_rfl) (by simp) l1
      rw [hR.2.1 4 _ l1 rfl] at f1
      exact wp_skip (w' := setBlk v1 (B 7) (nw 9 a)) (by simp [go_sem, f0, f1, e4, e5]) ⟨undef, rfl, RG.store 9 7 (nw 9 0) (nw 9 a) (B 7) hil hl rfl rfl rfl l0 rfl (by rw [nw_size]; decide) e1 (fun k r h => by have := hks k _ r h; omega) hR⟩
    · obtain rfl := Option.some.inj ho
      have l0 := hd ⟨8, .data⟩ (by simp) rfl
      have l1 := hd ⟨5, .data⟩ (by simp) rfl
      obtain ⟨B, h4, h5⟩ := hR.2.2.2
      obtain ⟨e1, e2, e3, e4, e5⟩ := h4 8 (nw 9 0) l0 rfl
      simp only [hl] at e5
      replace e5 : blk v1 (B 8) = nw 9 0 := e5
      have f0 := hF.at (s := 6) (i := 8) (by kernel_rfl) (by simp) l0
      rw [e1] at f0
      have f1 := hF.at (s := 20) (i := 5) (by kernel_rfl) (by simp) l1
      rw [hR.2.1 5 _ l1 rfl] at f1
      exact wp_skip (w' := setBlk v1 (B 8) (nw 9 0)) (by simp [go_sem, f0, f1, e4, e5]) ⟨undef, rfl, RG.store 10 8 (nw 9 0) (nw 9 0) (B 8) hil hl rfl rfl rfl l0 rfl (by rw [nw_size]; decide) e1 (fun k r h => by have := hks k _ r h; omega) hR⟩
    · obtain rfl := Option.some.inj ho
      have l0 := hd ⟨6, .data⟩ (by simp) rfl
      have f0 := hF.at (s := 21) (i := 6) (by kernel_rfl) (by simp) l0
      rw [hR.2.1 6 _ l0 rfl] at f0
      exact wp_val (.int .i64 0) (by simp [go_sem, f0]) ⟨_, rfl, RG.quiet 11 _ hil rfl rfl (fun j k r h => by have := hks j k r h; omega) (Gr.refl _) hR⟩
  case hf =>
    intro listed vals a1 v1 hall hR hF
    have hba : blk v1 (w.heap.size) = nw 9 a := (blk_of _ _ _ (hR.1.below.block (w.heap.size) (by simp [go_sem] <;> omega))).trans (by simp [go_sem])
    have phba : Pre (w.heap.size + 1) v1.heap.size := Nat.le_trans (show w.heap.size + 1 ≤ _ from by simp [go_sem] <;> omega) hR.1.below.size
    have hbb : blk v1 (w.heap.size + 1) = nw 9 b := (blk_of _ _ _ (hR.1.below.block (w.heap.size + 1) (by simp [go_sem] <;> omega))).trans (by simp [go_sem])
    have phbb : Pre (w.heap.size + 1 + 1) v1.heap.size := Nat.le_trans (show w.heap.size + 1 + 1 ≤ _ from by simp [go_sem] <;> omega) hR.1.below.size
    have hV := hR.2.1
    obtain ⟨B, h4, h5⟩ := hR.2.2.2
    have x0 := hV 0 _ (hall 0 (by simp)) rfl
    have x1 := hV 1 _ (hall 1 (by simp)) rfl
    have x2 := hV 2 _ (hall 2 (by simp)) rfl
    have x3 := hV 3 _ (hall 3 (by simp)) rfl
    have x4 := hV 4 _ (hall 4 (by simp)) rfl
    have x5 := hV 5 _ (hall 5 (by simp)) rfl
    have x6 := hV 6 _ (hall 6 (by simp)) rfl
    have x11 := hV 11 _ (hall 11 (by simp)) rfl
    obtain ⟨x7, q7, p7, z7, y7⟩ := h4 7 _ (hall 7 (by simp)) rfl
    simp only [hall 9 (by simp), if_true] at y7
    replace p7 : Pre (B 7 + 1) v1.heap.size := p7
    replace y7 : blk v1 (B 7) = nw 9 a := y7
    obtain ⟨x8, q8, p8, z8, y8⟩ := h4 8 _ (hall 8 (by simp)) rfl
    simp only [hall 10 (by simp), if_true] at y8
    replace p8 : Pre (B 8 + 1) v1.heap.size := p8
    replace y8 : blk v1 (B 8) = nw 9 0 := y8
    have hb1 := hR.1
    rw [hF.final (by kernel_rfl) hall]
    simp only [putFrom, Act.put, List.setIfInBounds_toArray, List.set_cons_zero, List.set_cons_succ, x0, x1, x2, x3, x4, x5, x6, x11, x7, x8]
    generalize B 7 = b7 at *
    generalize B 8 = b8 at *
    clear hV h4 h5 hR hF hall x0 x1 x2 x3 x4 x5 x6 x11 x7 x8
    have HG : Hid (Gr w v1) := by show Gr w v1; refine Gr.trans ?_ hb1; exact (by repeat (first | exact Gr.refl _ | apply Gr.drewN | apply Gr.drew | apply Gr.alloc | apply Gr.gro))
    clear hb1
    go_wp2_with (first
      | (go_at_call 28; refine (A.out _).mono ?_; rintro e w' ⟨rfl, gA, rfl⟩)
      | (go_at_call 29; refine (Z.out _).mono ?_; rintro e w' ⟨rfl, gZ, rfl⟩)
      | (go_at_call 12; refine (D2.out _).mono ?_; rintro e w' ⟨rfl, gD2, rfl⟩)
      | (go_at_call 16; refine (num_any _ _).mono ?_; rintro e w' ⟨rfl, rfl⟩))
    go_ret
    exact ⟨rfl, by repeat (first | exact HG.out | apply Gr.drewN | apply Gr.drew | apply Gr.alloc | apply Gr.gro)⟩

theorem dsmall_any (a b : Nat) (ha : a < M) (hb : b < M) (w : World) :
    Calls Try.prog 9 #[.agg (nw 9 a), .agg (nw 9 b)] w fun e w' => e = .returned (.bool true) ∧ Gr w w' := by
  by_cases h : M ≤ a + b
  · refine dsmall_over a b ((a + b) % M) ha (fun w => ?_) w
    have := add_any a b ha hb w
    rw [decide_eq_true h] at this
    exact this
  · have hs : a + b < M := by omega
    have ca := fun w => add_any a b ha hb w
    rw [decide_eq_false h, Nat.mod_eq_of_lt hs] at ca
    by_cases h0 : b = 0
    · subst h0
      rw [Nat.add_zero] at ca
      refine dsmall_none a 0 ha ca (fun w => ?_) w
      have := cmp_any a a ha ha w
      rw [cmpZ_eq] at this
      exact this
    · refine dsmall_more a b (a + b) ha ca (fun w => ?_) (fun w => ?_) w
      · have := cmp_any (a + b) a hs ha w
        rw [show cmpZ (a + b) a = 1 by unfold cmpZ; rw [if_neg (by omega), if_pos (by omega)]] at this
        exact this
      · have := div_any a (a + b) ha (by omega) hs w
        rw [Nat.div_eq_of_lt (by omega), Nat.mod_eq_of_lt (by omega)] at this
        exact this

end Go.Proofs.Ytbafjcbbiiipfaa
