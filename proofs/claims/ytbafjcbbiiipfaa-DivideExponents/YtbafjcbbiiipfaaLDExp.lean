/-
  The statement DivideExponents, walked: it answers true for every two numbers and every two words.
-/
import Derived.Test.YtbafjcbbiiipfaaDAw
namespace Go.Proofs.Ytbafjcbbiiipfaa
open Go.RowKit
attribute [local go_sem ↓] loadNat_is loadArr_is loadWide_is loadArrW_is storeNat_is storeWide_is
attribute [local go_sem] loadNat loadArr loadWide loadArrW storeNat storeWide idxArr fold9 fold18 nw_size nw_elem pre_self pre_1 pre_2 pre_3 pre_4 pre_5 pre_6 pre_7 pre_8 pre_9 pre_10 pre_11 pre_12 pre_13 pre_14 pre_15 pre_16 pre_17 pre_18 pre_19 pre_20 pre_21 pre_22 pre_23 pre_24 pre_25 pre_26 pre_27 pre_28 pre_29 pre_30 pre_31 pre_32 pre_33 pre_34 pre_35 pre_36 pre_37 pre_38 pre_39 pre_40 gro_size gro_drew gro_drewN drew_gro drewN_gro gro_gro blk_gro frz_gro blk_drew frz_drew blk_drewN frz_drewN blk_alloc_at frz_alloc_at blk_alloc frz_alloc cell_gro frozen_gro cell_alloc_pre frozen_alloc_pre setCell_drewN alloc_drewN setBlk_drew setBlk_drewN setBlk_alloc_at setBlk_alloc setBlk_gro setCell_gro setCell_alloc_pre size_setBlk size_setCell
attribute [local go_sem] nw_ext9 nw_ext18 eqArr9 eqArr18

attribute [local go_sem] loadNat2 loadArr2 loadWide2 loadK_nw ppre_1 ppre_2 ppre_3 ppre_4 ppre_5 ppre_6 ppre_7 ppre_8 ppre_9 ppre_10 ppre_11 ppre_12 ppre_13 ppre_14 ppre_15 ppre_16 ppre_17 ppre_18 ppre_19 ppre_20

attribute [local go_sem] eqN_self
attribute [local go_sem ↓] Go.wp_at_zero Go.wp_at_succ
attribute [local go_sem] blk_other

set_option maxRecDepth 100000 in
set_option maxHeartbeats 2400000 in
theorem dexp_zero (a ni nj I J K : Nat) (i1 : (ni : Int).tdiv 2 = (I : Int)) (i2 : IntKind.u64.wrap (I : Int) = (I : Int)) (j1 : (nj : Int).tdiv 2 = (J : Int)) (j2 : IntKind.u64.wrap (J : Int) = (J : Int)) (k1 : (I : Int) + (J : Int) = (K : Int)) (k2 : IntKind.u64.wrap (K : Int) = (K : Int)) (oi : ∀ w, Calls Try.prog 30 #[.int .u64 (I : Int)] w fun e w' => e = .returned (.agg (nw 9 I)) ∧ Gr w w') (oj : ∀ w, Calls Try.prog 30 #[.int .u64 (J : Int)] w fun e w' => e = .returned (.agg (nw 9 J)) ∧ Gr w w') (ok1 : ∀ w, Calls Try.prog 30 #[.int .u64 (K : Int)] w fun e w' => e = .returned (.agg (nw 9 K)) ∧ Gr w w') (pa : ∀ w, Calls Try.prog 23 #[.agg (nw 9 a), .agg (nw 9 I), .agg (nw 9 0)] w fun f w' => f = .returned (.tuple #[.agg (nw 9 0), .int .i64 400]) ∧ Gr w w') (pb : ∀ w, Calls Try.prog 23 #[.agg (nw 9 a), .agg (nw 9 J), .agg (nw 9 0)] w fun f w' => f = .returned (.tuple #[.agg (nw 9 0), .int .i64 400]) ∧ Gr w w') (pc : ∀ w, Calls Try.prog 23 #[.agg (nw 9 a), .agg (nw 9 K), .agg (nw 9 0)] w fun f w' => f = .returned (.tuple #[.agg (nw 9 0), .int .i64 400]) ∧ Gr w w')  (w : World) :
    Calls Try.prog 8 #[.agg (nw 9 a), .agg (nw 9 0), .int .u64 (ni : Int), .int .u64 (nj : Int)] w fun e w' => e = .returned (.bool true) ∧ Gr w w' := by
  have OI : Hid (∀ w, Calls Try.prog 30 #[.int .u64 (I : Int)] w fun e w' => e = .returned (.agg (nw 9 I)) ∧ Gr w w') := oi
  have OJ : Hid (∀ w, Calls Try.prog 30 #[.int .u64 (J : Int)] w fun e w' => e = .returned (.agg (nw 9 J)) ∧ Gr w w') := oj
  have OK1 : Hid (∀ w, Calls Try.prog 30 #[.int .u64 (K : Int)] w fun e w' => e = .returned (.agg (nw 9 K)) ∧ Gr w w') := ok1
  have PA : Hid (∀ w, Calls Try.prog 23 #[.agg (nw 9 a), .agg (nw 9 I), .agg (nw 9 0)] w fun f w' => f = .returned (.tuple #[.agg (nw 9 0), .int .i64 400]) ∧ Gr w w') := pa
  have PB : Hid (∀ w, Calls Try.prog 23 #[.agg (nw 9 a), .agg (nw 9 J), .agg (nw 9 0)] w fun f w' => f = .returned (.tuple #[.agg (nw 9 0), .int .i64 400]) ∧ Gr w w') := pb
  have PC : Hid (∀ w, Calls Try.prog 23 #[.agg (nw 9 a), .agg (nw 9 K), .agg (nw 9 0)] w fun f w' => f = .returned (.tuple #[.agg (nw 9 0), .int .i64 400]) ∧ Gr w w') := pc
  have q3 := eqN_self 9 0
  clear oi oj ok1 pa pb pc 
  go_enter Try.func8, Try.ntmps8
  go_wp2_with (go_at_call 17; refine (awake4_any _).mono ?_; rintro e w' ⟨rfl, gaw, rfl⟩)
  refine wp_region_mix (by kernel_rfl) (by kernel_rfl) (RG _ (fun i => match i with | 0 => some (.agg (nw 9 a)) | 1 => some (.int .u64 (ni : Int)) | 2 => some (.int .u64 (I : Int)) | 3 => some (.agg (nw 9 I)) | 4 => some (.agg (nw 9 0)) | 5 => some (.tuple #[.agg (nw 9 0), .int .i64 400]) | 6 => some (.tuple #[.agg (nw 9 0), .int .i64 400]) | 7 => some (.agg (nw 9 0)) | 8 => some (.int .i64 400) | 11 => some (.int .i64 400) | _ => none) (fun i => match i with | 9 => some (nw 9 0) | _ => none) (fun i => match i with | 9 => some (10, nw 9 0) | _ => none)) (RG.start _ _ _ _ _ _) ?hs ?hf
  case hs =>
    intro listed vals a1 v1 i o hz hR hF ho hl hd
    have hks : ∀ (j k : Nat) (r : Array Value), (match j with | 9 => some (10, nw 9 0) | _ => (none : Option (Nat × Array Value))) = some (k, r) → (j = 9 ∧ k = 10) := fun j k r h => by
      split at h <;> simp_all
    have hba : blk v1 (w.heap.size) = nw 9 a := (blk_of _ _ _ (hR.1.below.block (w.heap.size) (by simp [go_sem] <;> omega))).trans (by simp [go_sem])
    have hbm : blk v1 (w.heap.size + 1) = nw 9 0 := (blk_of _ _ _ (hR.1.below.block (w.heap.size + 1) (by simp [go_sem] <;> omega))).trans (by simp [go_sem])
    have hi : i < 12 := by simpa using (Array.getElem?_eq_some_iff.1 ho).1
    have hil : i < listed.size := by rw [hz]; simpa using hi
    obtain rfl | rfl | rfl | rfl | rfl | rfl | rfl | rfl | rfl | rfl | rfl | rfl : i = 0 ∨ i = 1 ∨ i = 2 ∨ i = 3 ∨ i = 4 ∨ i = 5 ∨ i = 6 ∨ i = 7 ∨ i = 8 ∨ i = 9 ∨ i = 10 ∨ i = 11 := by omega
    · obtain rfl := Option.some.inj ho
      have f0 := hF.old (s := 4) (v := .pointer (some ⟨w.heap.size, 0, none⟩)) (by kernel_rfl) rfl
      exact wp_val (.agg (nw 9 a)) (by simp [go_sem, f0, hba]) ⟨_, rfl, RG.quiet 0 _ hil rfl rfl (fun j k r h => by have := hks j k r h; omega) (Gr.refl _) hR⟩
    · obtain rfl := Option.some.inj ho
      have f0 := hF.old (s := 2) (v := .int .u64 (ni : Int)) (by kernel_rfl) rfl
      exact wp_val (.int .u64 (ni : Int)) (by simp [go_sem, f0]) ⟨_, rfl, RG.quiet 1 _ hil rfl rfl (fun j k r h => by have := hks j k r h; omega) (Gr.refl _) hR⟩
    · obtain rfl := Option.some.inj ho
      have l0 := hd ⟨1, .data⟩ (by simp) rfl
      have f0 := hF.at (s := 26) (i := 1) (by kernel_rfl) (by simp) l0
      rw [hR.2.1 1 _ l0 rfl] at f0
      exact wp_val (.int .u64 (I : Int)) (by simp [go_sem, f0, i1, i2]) ⟨_, rfl, RG.quiet 2 _ hil rfl rfl (fun j k r h => by have := hks j k r h; omega) (Gr.refl _) hR⟩
    · obtain rfl := Option.some.inj ho
      have l0 := hd ⟨2, .data⟩ (by simp) rfl
      have f0 := hF.at (s := 27) (i := 2) (by kernel_rfl) (by simp) l0
      rw [hR.2.1 2 _ l0 rfl] at f0
      exact wp_ret (.agg (nw 9 I)) (by simp [go_sem, f0]) (OI.out _) (fun w2 hg => ⟨_, rfl, RG.quiet 3 _ hil rfl rfl (fun j k r h => by have := hks j k r h; omega) hg hR⟩)
    · obtain rfl := Option.some.inj ho
      have f0 := hF.old (s := 5) (v := .pointer (some ⟨w.heap.size + 1, 0, none⟩)) (by kernel_rfl) rfl
      exact wp_val (.agg (nw 9 0)) (by simp [go_sem, f0, hbm]) ⟨_, rfl, RG.quiet 4 _ hil rfl rfl (fun j k r h => by have := hks j k r h; omega) (Gr.refl _) hR⟩
    · obtain rfl := Option.some.inj ho
      have l0 := hd ⟨0, .data⟩ (by simp) rfl
      have f0 := hF.at (s := 25) (i := 0) (by kernel_rfl) (by simp) l0
      rw [hR.2.1 0 _ l0 rfl] at f0
      have l1 := hd ⟨3, .data⟩ (by simp) rfl
      have f1 := hF.at (s := 28) (i := 3) (by kernel_rfl) (by simp) l1
      rw [hR.2.1 3 _ l1 rfl] at f1
      have l2 := hd ⟨4, .data⟩ (by simp) rfl
      have f2 := hF.at (s := 29) (i := 4) (by kernel_rfl) (by simp) l2
      rw [hR.2.1 4 _ l2 rfl] at f2
      exact wp_ret (.tuple #[.agg (nw 9 0), .int .i64 400]) (by simp [go_sem, f0, f1, f2]) (PA.out _) (fun w2 hg => ⟨_, rfl, RG.quiet 5 _ hil rfl rfl (fun j k r h => by have := hks j k r h; omega) hg hR⟩)
    · obtain rfl := Option.some.inj ho
      have l0 := hd ⟨5, .data⟩ (by simp) rfl
      have f0 := hF.at (s := 30) (i := 5) (by kernel_rfl) (by simp) l0
      rw [hR.2.1 5 _ l0 rfl] at f0
      exact wp_val (.tuple #[.agg (nw 9 0), .int .i64 400]) (by simp [go_sem, f0]) ⟨_, rfl, RG.quiet 6 _ hil rfl rfl (fun j k r h => by have := hks j k r h; omega) (Gr.refl _) hR⟩
    · obtain rfl := Option.some.inj ho
      have l0 := hd ⟨6, .data⟩ (by simp) rfl
      have f0 := hF.at (s := 24) (i := 6) (by kernel_rfl) (by simp) l0
      rw [hR.2.1 6 _ l0 rfl] at f0
      exact wp_val (.agg (nw 9 0)) (by simp [go_sem, f0]) ⟨_, rfl, RG.quiet 7 _ hil rfl rfl (fun j k r h => by have := hks j k r h; omega) (Gr.refl _) hR⟩
    · obtain rfl := Option.some.inj ho
      have l0 := hd ⟨6, .data⟩ (by simp) rfl
      have f0 := hF.at (s := 24) (i := 6) (by kernel_rfl) (by simp) l0
      rw [hR.2.1 6 _ l0 rfl] at f0
      exact wp_val (.int .i64 400) (by simp [go_sem, f0]) ⟨_, rfl, RG.quiet 8 _ hil rfl rfl (fun j k r h => by have := hks j k r h; omega) (Gr.refl _) hR⟩
    · obtain rfl := Option.some.inj ho
      exact wp_val (.pointer (some ⟨v1.heap.size, 0, none⟩)) (w' := v1.alloc (.cells (nw 9 0) 25)) (by simp [go_sem]) ⟨_, rfl, RG.alloc 9 (nw 9 0) 25 hil hl rfl rfl (fun j k r h => by have := hks j k r h; omega) hR⟩
    · obtain rfl := Option.some.inj ho
      have l0 := hd ⟨9, .data⟩ (by simp) rfl
      have l1 := hd ⟨7, .data⟩ (by simp) rfl
      obtain ⟨B, h4, h5⟩ := hR.2.2.2
      obtain ⟨e1, e2, e3, e4, e5⟩ := h4 9 (nw 9 0) l0 rfl
      simp only [hl] at e5
      replace e5 : blk v1 (B 9) = nw 9 0 := e5
      have f0 := hF.at (s := 9) (i := 9) (by kernel_rfl) (by simp) l0
      rw [e1] at f0
      have f1 := hF.at (s := 31) (i := 7) (by kernel_rfl) (by simp) l1
      rw [hR.2.1 7 _ l1 rfl] at f1
      exact wp_skip (w' := setBlk v1 (B 9) (nw 9 0)) (by simp [go_sem, f0, f1, e4, e5]) ⟨undef, rfl, RG.store 10 9 (nw 9 0) (nw 9 0) (B 9) hil hl rfl rfl rfl l0 rfl (by rw [nw_size]; decide) e1 (fun k r h => by have := hks k _ r h; omega) hR⟩
    · obtain rfl := Option.some.inj ho
      have l0 := hd ⟨8, .data⟩ (by simp) rfl
      have f0 := hF.at (s := 32) (i := 8) (by kernel_rfl) (by simp) l0
      rw [hR.2.1 8 _ l0 rfl] at f0
      exact wp_val (.int .i64 400) (by simp [go_sem, f0]) ⟨_, rfl, RG.quiet 11 _ hil rfl rfl (fun j k r h => by have := hks j k r h; omega) (Gr.refl _) hR⟩
  case hf =>
    intro listed vals a1 v1 hall hR hF
    have hba : blk v1 (w.heap.size) = nw 9 a := (blk_of _ _ _ (hR.1.below.block (w.heap.size) (by simp [go_sem] <;> omega))).trans (by simp [go_sem])
    have phba : Pre (w.heap.size + 1) v1.heap.size := Nat.le_trans (show w.heap.size + 1 ≤ _ from by simp [go_sem] <;> omega) hR.1.below.size
    have hbm : blk v1 (w.heap.size + 1) = nw 9 0 := (blk_of _ _ _ (hR.1.below.block (w.heap.size + 1) (by simp [go_sem] <;> omega))).trans (by simp [go_sem])
    have phbm : Pre (w.heap.size + 1 + 1) v1.heap.size := Nat.le_trans (show w.heap.size + 1 + 1 ≤ _ from by simp [go_sem] <;> omega) hR.1.below.size
    have hV := hR.2.1
    obtain ⟨B, h4, h5⟩ := hR.2.2.2
    have x0r := hV 0 _ (hall 0 (by simp)) rfl
    have x1r := hV 1 _ (hall 1 (by simp)) rfl
    have x2r := hV 2 _ (hall 2 (by simp)) rfl
    have x3r := hV 3 _ (hall 3 (by simp)) rfl
    have x4r := hV 4 _ (hall 4 (by simp)) rfl
    have x5r := hV 5 _ (hall 5 (by simp)) rfl
    have x6r := hV 6 _ (hall 6 (by simp)) rfl
    have x7r := hV 7 _ (hall 7 (by simp)) rfl
    have x8r := hV 8 _ (hall 8 (by simp)) rfl
    have x11r := hV 11 _ (hall 11 (by simp)) rfl
    obtain ⟨x9r, q9r, p9r, z9r, y9r⟩ := h4 9 _ (hall 9 (by simp)) rfl
    simp only [hall 10 (by simp), if_true] at y9r
    replace p9r : Pre (B 9 + 1) v1.heap.size := p9r
    replace y9r : blk v1 (B 9) = nw 9 0 := y9r
    have hb1 := hR.1
    rw [hF.final (by kernel_rfl) hall]
    simp only [putFrom, Act.put, List.setIfInBounds_toArray, List.set_cons_zero, List.set_cons_succ, x0r, x1r, x2r, x3r, x4r, x5r, x6r, x7r, x8r, x11r, x9r]
    generalize B 9 = b9r at *
    clear hV h4 h5 hR hF hall x0r x1r x2r x3r x4r x5r x6r x7r x8r x11r x9r
    have HG1 : Hid (Gr w v1) := by show Gr w v1; refine Gr.trans ?_ hb1; exact (by repeat (first | exact Gr.refl _ | apply Gr.drewN | apply Gr.drew | apply Gr.alloc | apply Gr.gro))
    clear hb1
    go_wp2_with fail
    refine wp_region_mix (by kernel_rfl) (by kernel_rfl) (RG _ (fun i => match i with | 0 => some (.agg (nw 9 a)) | 1 => some (.int .u64 (nj : Int)) | 2 => some (.int .u64 (J : Int)) | 3 => some (.agg (nw 9 J)) | 4 => some (.agg (nw 9 0)) | 5 => some (.tuple #[.agg (nw 9 0), .int .i64 400]) | 6 => some (.tuple #[.agg (nw 9 0), .int .i64 400]) | 7 => some (.agg (nw 9 0)) | 8 => some (.int .i64 400) | 11 => some (.int .i64 400) | _ => none) (fun i => match i with | 9 => some (nw 9 0) | _ => none) (fun i => match i with | 9 => some (10, nw 9 0) | _ => none)) (RG.start _ _ _ _ _ _) ?hs ?hf
    case hs =>
      intro listed vals a1 v2 i o hz hR hF ho hl hd
      have hks : ∀ (j k : Nat) (r : Array Value), (match j with | 9 => some (10, nw 9 0) | _ => (none : Option (Nat × Array Value))) = some (k, r) → (j = 9 ∧ k = 10) := fun j k r h => by
        split at h <;> simp_all
      have hbak : blk v2 (w.heap.size) = nw 9 a := (blk_of _ _ _ (hR.1.below.block (w.heap.size) (phba))).trans (hba)
      have hbmk : blk v2 (w.heap.size + 1) = nw 9 0 := (blk_of _ _ _ (hR.1.below.block (w.heap.size + 1) (phbm))).trans (hbm)
      have hbpk : blk v2 (b9r) = nw 9 0 := (blk_of _ _ _ (hR.1.below.block (b9r) (p9r))).trans (y9r)
      have hi : i < 12 := by simpa using (Array.getElem?_eq_some_iff.1 ho).1
      have hil : i < listed.size := by rw [hz]; simpa using hi
      obtain rfl | rfl | rfl | rfl | rfl | rfl | rfl | rfl | rfl | rfl | rfl | rfl : i = 0 ∨ i = 1 ∨ i = 2 ∨ i = 3 ∨ i = 4 ∨ i = 5 ∨ i = 6 ∨ i = 7 ∨ i = 8 ∨ i = 9 ∨ i = 10 ∨ i = 11 := by omega
      · obtain rfl := Option.some.inj ho
        have f0 := hF.old (s := 4) (v := .pointer (some ⟨w.heap.size, 0, none⟩)) (by kernel_rfl) rfl
        exact wp_val (.agg (nw 9 a)) (by simp [go_sem, f0, hbak]) ⟨_, rfl, RG.quiet 0 _ hil rfl rfl (fun j k r h => by have := hks j k r h; omega) (Gr.refl _) hR⟩
      · obtain rfl := Option.some.inj ho
        have f0 := hF.old (s := 3) (v := .int .u64 (nj : Int)) (by kernel_rfl) rfl
        exact wp_val (.int .u64 (nj : Int)) (by simp [go_sem, f0]) ⟨_, rfl, RG.quiet 1 _ hil rfl rfl (fun j k r h => by have := hks j k r h; omega) (Gr.refl _) hR⟩
      · obtain rfl := Option.some.inj ho
        have l0 := hd ⟨1, .data⟩ (by simp) rfl
        have f0 := hF.at (s := 35) (i := 1) (by kernel_rfl) (by simp) l0
        rw [hR.2.1 1 _ l0 rfl] at f0
        exact wp_val (.int .u64 (J : Int)) (by simp [go_sem, f0, j1, j2]) ⟨_, rfl, RG.quiet 2 _ hil rfl rfl (fun j k r h => by have := hks j k r h; omega) (Gr.refl _) hR⟩
      · obtain rfl := Option.some.inj ho
        have l0 := hd ⟨2, .data⟩ (by simp) rfl
        have f0 := hF.at (s := 36) (i := 2) (by kernel_rfl) (by simp) l0
        rw [hR.2.1 2 _ l0 rfl] at f0
        exact wp_ret (.agg (nw 9 J)) (by simp [go_sem, f0]) (OJ.out _) (fun w2 hg => ⟨_, rfl, RG.quiet 3 _ hil rfl rfl (fun j k r h => by have := hks j k r h; omega) hg hR⟩)
      · obtain rfl := Option.some.inj ho
        have f0 := hF.old (s := 5) (v := .pointer (some ⟨w.heap.size + 1, 0, none⟩)) (by kernel_rfl) rfl
        exact wp_val (.agg (nw 9 0)) (by simp [go_sem, f0, hbmk]) ⟨_, rfl, RG.quiet 4 _ hil rfl rfl (fun j k r h => by have := hks j k r h; omega) (Gr.refl _) hR⟩
      · obtain rfl := Option.some.inj ho
        have l0 := hd ⟨0, .data⟩ (by simp) rfl
        have f0 := hF.at (s := 34) (i := 0) (by kernel_rfl) (by simp) l0
        rw [hR.2.1 0 _ l0 rfl] at f0
        have l1 := hd ⟨3, .data⟩ (by simp) rfl
        have f1 := hF.at (s := 37) (i := 3) (by kernel_rfl) (by simp) l1
        rw [hR.2.1 3 _ l1 rfl] at f1
        have l2 := hd ⟨4, .data⟩ (by simp) rfl
        have f2 := hF.at (s := 38) (i := 4) (by kernel_rfl) (by simp) l2
        rw [hR.2.1 4 _ l2 rfl] at f2
        exact wp_ret (.tuple #[.agg (nw 9 0), .int .i64 400]) (by simp [go_sem, f0, f1, f2]) (PB.out _) (fun w2 hg => ⟨_, rfl, RG.quiet 5 _ hil rfl rfl (fun j k r h => by have := hks j k r h; omega) hg hR⟩)
      · obtain rfl := Option.some.inj ho
        have l0 := hd ⟨5, .data⟩ (by simp) rfl
        have f0 := hF.at (s := 39) (i := 5) (by kernel_rfl) (by simp) l0
        rw [hR.2.1 5 _ l0 rfl] at f0
        exact wp_val (.tuple #[.agg (nw 9 0), .int .i64 400]) (by simp [go_sem, f0]) ⟨_, rfl, RG.quiet 6 _ hil rfl rfl (fun j k r h => by have := hks j k r h; omega) (Gr.refl _) hR⟩
      · obtain rfl := Option.some.inj ho
        have l0 := hd ⟨6, .data⟩ (by simp) rfl
        have f0 := hF.at (s := 33) (i := 6) (by kernel_rfl) (by simp) l0
        rw [hR.2.1 6 _ l0 rfl] at f0
        exact wp_val (.agg (nw 9 0)) (by simp [go_sem, f0]) ⟨_, rfl, RG.quiet 7 _ hil rfl rfl (fun j k r h => by have := hks j k r h; omega) (Gr.refl _) hR⟩
      · obtain rfl := Option.some.inj ho
        have l0 := hd ⟨6, .data⟩ (by simp) rfl
        have f0 := hF.at (s := 33) (i := 6) (by kernel_rfl) (by simp) l0
        rw [hR.2.1 6 _ l0 rfl] at f0
        exact wp_val (.int .i64 400) (by simp [go_sem, f0]) ⟨_, rfl, RG.quiet 8 _ hil rfl rfl (fun j k r h => by have := hks j k r h; omega) (Gr.refl _) hR⟩
      · obtain rfl := Option.some.inj ho
        exact wp_val (.pointer (some ⟨v2.heap.size, 0, none⟩)) (w' := v2.alloc (.cells (nw 9 0) 25)) (by simp [go_sem]) ⟨_, rfl, RG.alloc 9 (nw 9 0) 25 hil hl rfl rfl (fun j k r h => by have := hks j k r h; omega) hR⟩
      · obtain rfl := Option.some.inj ho
        have l0 := hd ⟨9, .data⟩ (by simp) rfl
        have l1 := hd ⟨7, .data⟩ (by simp) rfl
        obtain ⟨B, h4, h5⟩ := hR.2.2.2
        obtain ⟨e1, e2, e3, e4, e5⟩ := h4 9 (nw 9 0) l0 rfl
        simp only [hl] at e5
        replace e5 : blk v2 (B 9) = nw 9 0 := e5
        have f0 := hF.at (s := 11) (i := 9) (by kernel_rfl) (by simp) l0
        rw [e1] at f0
        have f1 := hF.at (s := 40) (i := 7) (by kernel_rfl) (by simp) l1
        rw [hR.2.1 7 _ l1 rfl] at f1
        exact wp_skip (w' := setBlk v2 (B 9) (nw 9 0)) (by simp [go_sem, f0, f1, e4, e5]) ⟨undef, rfl, RG.store 10 9 (nw 9 0) (nw 9 0) (B 9) hil hl rfl rfl rfl l0 rfl (by rw [nw_size]; decide) e1 (fun k r h => by have := hks k _ r h; omega) hR⟩
      · obtain rfl := Option.some.inj ho
        have l0 := hd ⟨8, .data⟩ (by simp) rfl
        have f0 := hF.at (s := 41) (i := 8) (by kernel_rfl) (by simp) l0
        rw [hR.2.1 8 _ l0 rfl] at f0
        exact wp_val (.int .i64 400) (by simp [go_sem, f0]) ⟨_, rfl, RG.quiet 11 _ hil rfl rfl (fun j k r h => by have := hks j k r h; omega) (Gr.refl _) hR⟩
    case hf =>
      intro listed vals a1 v2 hall hR hF
      have hbak : blk v2 (w.heap.size) = nw 9 a := (blk_of _ _ _ (hR.1.below.block (w.heap.size) (phba))).trans (hba)
      have phbak : Pre (w.heap.size + 1) v2.heap.size := Nat.le_trans (show w.heap.size + 1 ≤ _ from phba) hR.1.below.size
      have hbmk : blk v2 (w.heap.size + 1) = nw 9 0 := (blk_of _ _ _ (hR.1.below.block (w.heap.size + 1) (phbm))).trans (hbm)
      have phbmk : Pre (w.heap.size + 1 + 1) v2.heap.size := Nat.le_trans (show w.heap.size + 1 + 1 ≤ _ from phbm) hR.1.below.size
      have hbpk : blk v2 (b9r) = nw 9 0 := (blk_of _ _ _ (hR.1.below.block (b9r) (p9r))).trans (y9r)
      have phbpk : Pre (b9r + 1) v2.heap.size := Nat.le_trans (show b9r + 1 ≤ _ from p9r) hR.1.below.size
      have hV := hR.2.1
      obtain ⟨B, h4, h5⟩ := hR.2.2.2
      have x0s := hV 0 _ (hall 0 (by simp)) rfl
      have x1s := hV 1 _ (hall 1 (by simp)) rfl
      have x2s := hV 2 _ (hall 2 (by simp)) rfl
      have x3s := hV 3 _ (hall 3 (by simp)) rfl
      have x4s := hV 4 _ (hall 4 (by simp)) rfl
      have x5s := hV 5 _ (hall 5 (by simp)) rfl
      have x6s := hV 6 _ (hall 6 (by simp)) rfl
      have x7s := hV 7 _ (hall 7 (by simp)) rfl
      have x8s := hV 8 _ (hall 8 (by simp)) rfl
      have x11s := hV 11 _ (hall 11 (by simp)) rfl
      obtain ⟨x9s, q9s, p9s, z9s, y9s⟩ := h4 9 _ (hall 9 (by simp)) rfl
      simp only [hall 10 (by simp), if_true] at y9s
      replace p9s : Pre (B 9 + 1) v2.heap.size := p9s
      replace y9s : blk v2 (B 9) = nw 9 0 := y9s
      have hb1 := hR.1
      rw [hF.final (by kernel_rfl) hall]
      simp only [putFrom, Act.put, List.setIfInBounds_toArray, List.set_cons_zero, List.set_cons_succ, x0s, x1s, x2s, x3s, x4s, x5s, x6s, x7s, x8s, x11s, x9s]
      generalize B 9 = b9s at *
      clear hV h4 h5 hR hF hall x0s x1s x2s x3s x4s x5s x6s x7s x8s x11s x9s
      have HG2 : Hid (Gr w v2) := HG1.out.trans hb1
      clear hb1 hba hbm phba phbm y9r HG1
      go_wp2_with fail
      refine wp_region_mix (by kernel_rfl) (by kernel_rfl) (RG _ (fun i => match i with | 0 => some (.agg (nw 9 a)) | 1 => some (.int .u64 (ni : Int)) | 2 => some (.int .u64 (I : Int)) | 3 => some (.int .u64 (nj : Int)) | 4 => some (.int .u64 (J : Int)) | 5 => some (.int .u64 (K : Int)) | 6 => some (.agg (nw 9 K)) | 7 => some (.agg (nw 9 0)) | 8 => some (.tuple #[.agg (nw 9 0), .int .i64 400]) | 9 => some (.tuple #[.agg (nw 9 0), .int .i64 400]) | 10 => some (.agg (nw 9 0)) | 11 => some (.int .i64 400) | 14 => some (.int .i64 400) | _ => none) (fun i => match i with | 12 => some (nw 9 0) | _ => none) (fun i => match i with | 12 => some (13, nw 9 0) | _ => none)) (RG.start _ _ _ _ _ _) ?hs ?hf
      case hs =>
        intro listed vals a1 v3 i o hz hR hF ho hl hd
        have hks : ∀ (j k : Nat) (r : Array Value), (match j with | 12 => some (13, nw 9 0) | _ => (none : Option (Nat × Array Value))) = some (k, r) → (j = 12 ∧ k = 13) := fun j k r h => by
          split at h <;> simp_all
        have hbal : blk v3 (w.heap.size) = nw 9 a := (blk_of _ _ _ (hR.1.below.block (w.heap.size) (phbak))).trans (hbak)
        have hbml : blk v3 (w.heap.size + 1) = nw 9 0 := (blk_of _ _ _ (hR.1.below.block (w.heap.size + 1) (phbmk))).trans (hbmk)
        have hbpl : blk v3 (b9r) = nw 9 0 := (blk_of _ _ _ (hR.1.below.block (b9r) (phbpk))).trans (hbpk)
        have hbql : blk v3 (b9s) = nw 9 0 := (blk_of _ _ _ (hR.1.below.block (b9s) (p9s))).trans (y9s)
        have hi : i < 15 := by simpa using (Array.getElem?_eq_some_iff.1 ho).1
        have hil : i < listed.size := by rw [hz]; simpa using hi
        obtain rfl | rfl | rfl | rfl | rfl | rfl | rfl | rfl | rfl | rfl | rfl | rfl | rfl | rfl | rfl : i = 0 ∨ i = 1 ∨ i = 2 ∨ i = 3 ∨ i = 4 ∨ i = 5 ∨ i = 6 ∨ i = 7 ∨ i = 8 ∨ i = 9 ∨ i = 10 ∨ i = 11 ∨ i = 12 ∨ i = 13 ∨ i = 14 := by omega
        · obtain rfl := Option.some.inj ho
          have f0 := hF.old (s := 4) (v := .pointer (some ⟨w.heap.size, 0, none⟩)) (by kernel_rfl) rfl
          exact wp_val (.agg (nw 9 a)) (by simp [go_sem, f0, hbal]) ⟨_, rfl, RG.quiet 0 _ hil rfl rfl (fun j k r h => by have := hks j k r h; omega) (Gr.refl _) hR⟩
        · obtain rfl := Option.some.inj ho
          have f0 := hF.old (s := 2) (v := .int .u64 (ni : Int)) (by kernel_rfl) rfl
          exact wp_val (.int .u64 (ni : Int)) (by simp [go_sem, f0]) ⟨_, rfl, RG.quiet 1 _ hil rfl rfl (fun j k r h => by have := hks j k r h; omega) (Gr.refl _) hR⟩
        · obtain rfl := Option.some.inj ho
          have l0 := hd ⟨1, .data⟩ (by simp) rfl
          have f0 := hF.at (s := 44) (i := 1) (by kernel_rfl) (by simp) l0
          rw [hR.2.1 1 _ l0 rfl] at f0
          exact wp_val (.int .u64 (I : Int)) (by simp [go_sem, f0, i1, i2]) ⟨_, rfl, RG.quiet 2 _ hil rfl rfl (fun j k r h => by have := hks j k r h; omega) (Gr.refl _) hR⟩
        · obtain rfl := Option.some.inj ho
          have f0 := hF.old (s := 3) (v := .int .u64 (nj : Int)) (by kernel_rfl) rfl
          exact wp_val (.int .u64 (nj : Int)) (by simp [go_sem, f0]) ⟨_, rfl, RG.quiet 3 _ hil rfl rfl (fun j k r h => by have := hks j k r h; omega) (Gr.refl _) hR⟩
        · obtain rfl := Option.some.inj ho
          have l0 := hd ⟨3, .data⟩ (by simp) rfl
          have f0 := hF.at (s := 46) (i := 3) (by kernel_rfl) (by simp) l0
          rw [hR.2.1 3 _ l0 rfl] at f0
          exact wp_val (.int .u64 (J : Int)) (by simp [go_sem, f0, j1, j2]) ⟨_, rfl, RG.quiet 4 _ hil rfl rfl (fun j k r h => by have := hks j k r h; omega) (Gr.refl _) hR⟩
        · obtain rfl := Option.some.inj ho
          have l0 := hd ⟨2, .data⟩ (by simp) rfl
          have f0 := hF.at (s := 45) (i := 2) (by kernel_rfl) (by simp) l0
          rw [hR.2.1 2 _ l0 rfl] at f0
          have l1 := hd ⟨4, .data⟩ (by simp) rfl
          have f1 := hF.at (s := 47) (i := 4) (by kernel_rfl) (by simp) l1
          rw [hR.2.1 4 _ l1 rfl] at f1
          exact wp_val (.int .u64 (K : Int)) (by simp [go_sem, f0, f1, k1, k2]) ⟨_, rfl, RG.quiet 5 _ hil rfl rfl (fun j k r h => by have := hks j k r h; omega) (Gr.refl _) hR⟩
        · obtain rfl := Option.some.inj ho
          have l0 := hd ⟨5, .data⟩ (by simp) rfl
          have f0 := hF.at (s := 48) (i := 5) (by kernel_rfl) (by simp) l0
          rw [hR.2.1 5 _ l0 rfl] at f0
          exact wp_ret (.agg (nw 9 K)) (by simp [go_sem, f0]) (OK1.out _) (fun w2 hg => ⟨_, rfl, RG.quiet 6 _ hil rfl rfl (fun j k r h => by have := hks j k r h; omega) hg hR⟩)
        · obtain rfl := Option.some.inj ho
          have f0 := hF.old (s := 5) (v := .pointer (some ⟨w.heap.size + 1, 0, none⟩)) (by kernel_rfl) rfl
          exact wp_val (.agg (nw 9 0)) (by simp [go_sem, f0, hbml]) ⟨_, rfl, RG.quiet 7 _ hil rfl rfl (fun j k r h => by have := hks j k r h; omega) (Gr.refl _) hR⟩
        · obtain rfl := Option.some.inj ho
          have l0 := hd ⟨0, .data⟩ (by simp) rfl
          have f0 := hF.at (s := 43) (i := 0) (by kernel_rfl) (by simp) l0
          rw [hR.2.1 0 _ l0 rfl] at f0
          have l1 := hd ⟨6, .data⟩ (by simp) rfl
          have f1 := hF.at (s := 49) (i := 6) (by kernel_rfl) (by simp) l1
          rw [hR.2.1 6 _ l1 rfl] at f1
          have l2 := hd ⟨7, .data⟩ (by simp) rfl
          have f2 := hF.at (s := 50) (i := 7) (by kernel_rfl) (by simp) l2
          rw [hR.2.1 7 _ l2 rfl] at f2
          exact wp_ret (.tuple #[.agg (nw 9 0), .int .i64 400]) (by simp [go_sem, f0, f1, f2]) (PC.out _) (fun w2 hg => ⟨_, rfl, RG.quiet 8 _ hil rfl rfl (fun j k r h => by have := hks j k r h; omega) hg hR⟩)
        · obtain rfl := Option.some.inj ho
          have l0 := hd ⟨8, .data⟩ (by simp) rfl
          have f0 := hF.at (s := 51) (i := 8) (by kernel_rfl) (by simp) l0
          rw [hR.2.1 8 _ l0 rfl] at f0
          exact wp_val (.tuple #[.agg (nw 9 0), .int .i64 400]) (by simp [go_sem, f0]) ⟨_, rfl, RG.quiet 9 _ hil rfl rfl (fun j k r h => by have := hks j k r h; omega) (Gr.refl _) hR⟩
        · obtain rfl := Option.some.inj ho
          have l0 := hd ⟨9, .data⟩ (by simp) rfl
          have f0 := hF.at (s := 42) (i := 9) (by kernel_rfl) (by simp) l0
          rw [hR.2.1 9 _ l0 rfl] at f0
          exact wp_val (.agg (nw 9 0)) (by simp [go_sem, f0]) ⟨_, rfl, RG.quiet 10 _ hil rfl rfl (fun j k r h => by have := hks j k r h; omega) (Gr.refl _) hR⟩
        · obtain rfl := Option.some.inj ho
          have l0 := hd ⟨9, .data⟩ (by simp) rfl
          have f0 := hF.at (s := 42) (i := 9) (by kernel_rfl) (by simp) l0
          rw [hR.2.1 9 _ l0 rfl] at f0
          exact wp_val (.int .i64 400) (by simp [go_sem, f0]) ⟨_, rfl, RG.quiet 11 _ hil rfl rfl (fun j k r h => by have := hks j k r h; omega) (Gr.refl _) hR⟩
        · obtain rfl := Option.some.inj ho
          exact wp_val (.pointer (some ⟨v3.heap.size, 0, none⟩)) (w' := v3.alloc (.cells (nw 9 0) 25)) (by simp [go_sem]) ⟨_, rfl, RG.alloc 12 (nw 9 0) 25 hil hl rfl rfl (fun j k r h => by have := hks j k r h; omega) hR⟩
        · obtain rfl := Option.some.inj ho
          have l0 := hd ⟨12, .data⟩ (by simp) rfl
          have l1 := hd ⟨10, .data⟩ (by simp) rfl
          obtain ⟨B, h4, h5⟩ := hR.2.2.2
          obtain ⟨e1, e2, e3, e4, e5⟩ := h4 12 (nw 9 0) l0 rfl
          simp only [hl] at e5
          replace e5 : blk v3 (B 12) = nw 9 0 := e5
          have f0 := hF.at (s := 13) (i := 12) (by kernel_rfl) (by simp) l0
          rw [e1] at f0
          have f1 := hF.at (s := 52) (i := 10) (by kernel_rfl) (by simp) l1
          rw [hR.2.1 10 _ l1 rfl] at f1
          exact wp_skip (w' := setBlk v3 (B 12) (nw 9 0)) (by simp [go_sem, f0, f1, e4, e5]) ⟨undef, rfl, RG.store 13 12 (nw 9 0) (nw 9 0) (B 12) hil hl rfl rfl rfl l0 rfl (by rw [nw_size]; decide) e1 (fun k r h => by have := hks k _ r h; omega) hR⟩
        · obtain rfl := Option.some.inj ho
          have l0 := hd ⟨11, .data⟩ (by simp) rfl
          have f0 := hF.at (s := 53) (i := 11) (by kernel_rfl) (by simp) l0
          rw [hR.2.1 11 _ l0 rfl] at f0
          exact wp_val (.int .i64 400) (by simp [go_sem, f0]) ⟨_, rfl, RG.quiet 14 _ hil rfl rfl (fun j k r h => by have := hks j k r h; omega) (Gr.refl _) hR⟩
      case hf =>
        intro listed vals a1 v3 hall hR hF
        have hbal : blk v3 (w.heap.size) = nw 9 a := (blk_of _ _ _ (hR.1.below.block (w.heap.size) (phbak))).trans (hbak)
        have phbal : Pre (w.heap.size + 1) v3.heap.size := Nat.le_trans (show w.heap.size + 1 ≤ _ from phbak) hR.1.below.size
        have hbml : blk v3 (w.heap.size + 1) = nw 9 0 := (blk_of _ _ _ (hR.1.below.block (w.heap.size + 1) (phbmk))).trans (hbmk)
        have phbml : Pre (w.heap.size + 1 + 1) v3.heap.size := Nat.le_trans (show w.heap.size + 1 + 1 ≤ _ from phbmk) hR.1.below.size
        have hbpl : blk v3 (b9r) = nw 9 0 := (blk_of _ _ _ (hR.1.below.block (b9r) (phbpk))).trans (hbpk)
        have phbpl : Pre (b9r + 1) v3.heap.size := Nat.le_trans (show b9r + 1 ≤ _ from phbpk) hR.1.below.size
        have hbql : blk v3 (b9s) = nw 9 0 := (blk_of _ _ _ (hR.1.below.block (b9s) (p9s))).trans (y9s)
        have phbql : Pre (b9s + 1) v3.heap.size := Nat.le_trans (show b9s + 1 ≤ _ from p9s) hR.1.below.size
        have hV := hR.2.1
        obtain ⟨B, h4, h5⟩ := hR.2.2.2
        have x0t := hV 0 _ (hall 0 (by simp)) rfl
        have x1t := hV 1 _ (hall 1 (by simp)) rfl
        have x2t := hV 2 _ (hall 2 (by simp)) rfl
        have x3t := hV 3 _ (hall 3 (by simp)) rfl
        have x4t := hV 4 _ (hall 4 (by simp)) rfl
        have x5t := hV 5 _ (hall 5 (by simp)) rfl
        have x6t := hV 6 _ (hall 6 (by simp)) rfl
        have x7t := hV 7 _ (hall 7 (by simp)) rfl
        have x8t := hV 8 _ (hall 8 (by simp)) rfl
        have x9t := hV 9 _ (hall 9 (by simp)) rfl
        have x10t := hV 10 _ (hall 10 (by simp)) rfl
        have x11t := hV 11 _ (hall 11 (by simp)) rfl
        have x14t := hV 14 _ (hall 14 (by simp)) rfl
        obtain ⟨x12t, q12t, p12t, z12t, y12t⟩ := h4 12 _ (hall 12 (by simp)) rfl
        simp only [hall 13 (by simp), if_true] at y12t
        replace p12t : Pre (B 12 + 1) v3.heap.size := p12t
        replace y12t : blk v3 (B 12) = nw 9 0 := y12t
        have hb1 := hR.1
        rw [hF.final (by kernel_rfl) hall]
        simp only [putFrom, Act.put, List.setIfInBounds_toArray, List.set_cons_zero, List.set_cons_succ, x0t, x1t, x2t, x3t, x4t, x5t, x6t, x7t, x8t, x9t, x10t, x11t, x14t, x12t]
        generalize B 12 = b12t at *
        clear hV h4 h5 hR hF hall x0t x1t x2t x3t x4t x5t x6t x7t x8t x9t x10t x11t x14t x12t
        have HG3 : Hid (Gr w v3) := HG2.out.trans hb1
        clear hb1 hbak hbmk phbak phbmk hbpk y9s HG2
        go_wp2_with (go_at_call 16; refine (num_any _ _).mono ?_; rintro e w' ⟨rfl, rfl⟩)
        go_ret
        exact ⟨rfl, by repeat (first | exact HG3.out | apply Gr.drewN | apply Gr.drew | apply Gr.alloc | apply Gr.gro)⟩

set_option maxRecDepth 100000 in
set_option maxHeartbeats 2400000 in
theorem dexp_more (a ni nj I J K m p q s oo oq : Nat) (i1 : (ni : Int).tdiv 2 = (I : Int)) (i2 : IntKind.u64.wrap (I : Int) = (I : Int)) (j1 : (nj : Int).tdiv 2 = (J : Int)) (j2 : IntKind.u64.wrap (J : Int) = (J : Int)) (k1 : (I : Int) + (J : Int) = (K : Int)) (k2 : IntKind.u64.wrap (K : Int) = (K : Int)) (oi : ∀ w, Calls Try.prog 30 #[.int .u64 (I : Int)] w fun e w' => e = .returned (.agg (nw 9 I)) ∧ Gr w w') (oj : ∀ w, Calls Try.prog 30 #[.int .u64 (J : Int)] w fun e w' => e = .returned (.agg (nw 9 J)) ∧ Gr w w') (ok1 : ∀ w, Calls Try.prog 30 #[.int .u64 (K : Int)] w fun e w' => e = .returned (.agg (nw 9 K)) ∧ Gr w w') (pa : ∀ w, Calls Try.prog 23 #[.agg (nw 9 a), .agg (nw 9 I), .agg (nw 9 m)] w fun f w' => f = .returned (.tuple #[.agg (nw 9 p), .int .i64 0]) ∧ Gr w w') (pb : ∀ w, Calls Try.prog 23 #[.agg (nw 9 a), .agg (nw 9 J), .agg (nw 9 m)] w fun f w' => f = .returned (.tuple #[.agg (nw 9 q), .int .i64 0]) ∧ Gr w w') (pc : ∀ w, Calls Try.prog 23 #[.agg (nw 9 a), .agg (nw 9 K), .agg (nw 9 m)] w fun f w' => f = .returned (.tuple #[.agg (nw 9 s), .int .i64 0]) ∧ Gr w w') (mm : ∀ w, Calls Try.prog 14 #[.agg (nw 9 p), .agg (nw 9 q), .agg (nw 9 m)] w fun e w' => e = .returned (.tuple #[.agg (nw 9 s), .int .i64 0]) ∧ Gr w w') (pz : ∀ w, Calls Try.prog 23 #[.agg (nw 9 a), .agg (nw 9 0), .agg (nw 9 m)] w fun e w' => e = .returned (.tuple #[.agg (nw 9 oo), .int .i64 0]) ∧ Gr w w') (o1 : ∀ w, Calls Try.prog 30 #[.int .u64 1] w fun e w' => e = .returned (.agg (nw 9 1)) ∧ Gr w w') (d1 : ∀ w, Calls Try.prog 12 #[.agg (nw 9 1), .agg (nw 9 m)] w fun e w' => e = .returned (.tuple #[.agg (nw 9 oq), .agg (nw 9 oo), .int .i64 0]) ∧ Gr w w') (e0 : eqN 9 m 0 = false) (w : World) :
    Calls Try.prog 8 #[.agg (nw 9 a), .agg (nw 9 m), .int .u64 (ni : Int), .int .u64 (nj : Int)] w fun e w' => e = .returned (.bool true) ∧ Gr w w' := by
  have OI : Hid (∀ w, Calls Try.prog 30 #[.int .u64 (I : Int)] w fun e w' => e = .returned (.agg (nw 9 I)) ∧ Gr w w') := oi
  have OJ : Hid (∀ w, Calls Try.prog 30 #[.int .u64 (J : Int)] w fun e w' => e = .returned (.agg (nw 9 J)) ∧ Gr w w') := oj
  have OK1 : Hid (∀ w, Calls Try.prog 30 #[.int .u64 (K : Int)] w fun e w' => e = .returned (.agg (nw 9 K)) ∧ Gr w w') := ok1
  have PA : Hid (∀ w, Calls Try.prog 23 #[.agg (nw 9 a), .agg (nw 9 I), .agg (nw 9 m)] w fun f w' => f = .returned (.tuple #[.agg (nw 9 p), .int .i64 0]) ∧ Gr w w') := pa
  have PB : Hid (∀ w, Calls Try.prog 23 #[.agg (nw 9 a), .agg (nw 9 J), .agg (nw 9 m)] w fun f w' => f = .returned (.tuple #[.agg (nw 9 q), .int .i64 0]) ∧ Gr w w') := pb
  have PC : Hid (∀ w, Calls Try.prog 23 #[.agg (nw 9 a), .agg (nw 9 K), .agg (nw 9 m)] w fun f w' => f = .returned (.tuple #[.agg (nw 9 s), .int .i64 0]) ∧ Gr w w') := pc
  have MM : Hid (∀ w, Calls Try.prog 14 #[.agg (nw 9 p), .agg (nw 9 q), .agg (nw 9 m)] w fun e w' => e = .returned (.tuple #[.agg (nw 9 s), .int .i64 0]) ∧ Gr w w') := mm
  have PZ : Hid (∀ w, Calls Try.prog 23 #[.agg (nw 9 a), .agg (nw 9 0), .agg (nw 9 m)] w fun e w' => e = .returned (.tuple #[.agg (nw 9 oo), .int .i64 0]) ∧ Gr w w') := pz
  have O1 : Hid (∀ w, Calls Try.prog 30 #[.int .u64 1] w fun e w' => e = .returned (.agg (nw 9 1)) ∧ Gr w w') := o1
  have D1 : Hid (∀ w, Calls Try.prog 12 #[.agg (nw 9 1), .agg (nw 9 m)] w fun e w' => e = .returned (.tuple #[.agg (nw 9 oq), .agg (nw 9 oo), .int .i64 0]) ∧ Gr w w') := d1
  have q3 := eqN_self 9 0
  clear oi oj ok1 pa pb pc mm pz o1 d1
  go_enter Try.func8, Try.ntmps8
  go_wp2_with (go_at_call 17; refine (awake4_any _).mono ?_; rintro e w' ⟨rfl, gaw, rfl⟩)
  refine wp_region_mix (by kernel_rfl) (by kernel_rfl) (RG _ (fun i => match i with | 0 => some (.agg (nw 9 a)) | 1 => some (.int .u64 (ni : Int)) | 2 => some (.int .u64 (I : Int)) | 3 => some (.agg (nw 9 I)) | 4 => some (.agg (nw 9 m)) | 5 => some (.tuple #[.agg (nw 9 p), .int .i64 0]) | 6 => some (.tuple #[.agg (nw 9 p), .int .i64 0]) | 7 => some (.agg (nw 9 p)) | 8 => some (.int .i64 0) | 11 => some (.int .i64 0) | _ => none) (fun i => match i with | 9 => some (nw 9 0) | _ => none) (fun i => match i with | 9 => some (10, nw 9 p) | _ => none)) (RG.start _ _ _ _ _ _) ?hs ?hf
  case hs =>
    intro listed vals a1 v1 i o hz hR hF ho hl hd
    have hks : ∀ (j k : Nat) (r : Array Value), (match j with | 9 => some (10, nw 9 p) | _ => (none : Option (Nat × Array Value))) = some (k, r) → (j = 9 ∧ k = 10) := fun j k r h => by
      split at h <;> simp_all
    have hba : blk v1 (w.heap.size) = nw 9 a := (blk_of _ _ _ (hR.1.below.block (w.heap.size) (by simp [go_sem] <;> omega))).trans (by simp [go_sem])
    have hbm : blk v1 (w.heap.size + 1) = nw 9 m := (blk_of _ _ _ (hR.1.below.block (w.heap.size + 1) (by simp [go_sem] <;> omega))).trans (by simp [go_sem])
    have hi : i < 12 := by simpa using (Array.getElem?_eq_some_iff.1 ho).1
    have hil : i < listed.size := by rw [hz]; simpa using hi
    obtain rfl | rfl | rfl | rfl | rfl | rfl | rfl | rfl | rfl | rfl | rfl | rfl : i = 0 ∨ i = 1 ∨ i = 2 ∨ i = 3 ∨ i = 4 ∨ i = 5 ∨ i = 6 ∨ i = 7 ∨ i = 8 ∨ i = 9 ∨ i = 10 ∨ i = 11 := by omega
    · obtain rfl := Option.some.inj ho
      have f0 := hF.old (s := 4) (v := .pointer (some ⟨w.heap.size, 0, none⟩)) (by kernel_rfl) rfl
      exact wp_val (.agg (nw 9 a)) (by simp [go_sem, f0, hba]) ⟨_, rfl, RG.quiet 0 _ hil rfl rfl (fun j k r h => by have := hks j k r h; omega) (Gr.refl _) hR⟩
    · obtain rfl := Option.some.inj ho
      have f0 := hF.old (s := 2) (v := .int .u64 (ni : Int)) (by kernel_rfl) rfl
      exact wp_val (.int .u64 (ni : Int)) (by simp [go_sem, f0]) ⟨_, rfl, RG.quiet 1 _ hil rfl rfl (fun j k r h => by have := hks j k r h; omega) (Gr.refl _) hR⟩
    · obtain rfl := Option.some.inj ho
      have l0 := hd ⟨1, .data⟩ (by simp) rfl
      have f0 := hF.at (s := 26) (i := 1) (by kernel_rfl) (by simp) l0
      rw [hR.2.1 1 _ l0 rfl] at f0
      exact wp_val (.int .u64 (I : Int)) (by simp [go_sem, f0, i1, i2]) ⟨_, rfl, RG.quiet 2 _ hil rfl rfl (fun j k r h => by have := hks j k r h; omega) (Gr.refl _) hR⟩
    · obtain rfl := Option.some.inj ho
      have l0 := hd ⟨2, .data⟩ (by simp) rfl
      have f0 := hF.at (s := 27) (i := 2) (by kernel_rfl) (by simp) l0
      rw [hR.2.1 2 _ l0 rfl] at f0
      exact wp_ret (.agg (nw 9 I)) (by simp [go_sem, f0]) (OI.out _) (fun w2 hg => ⟨_, rfl, RG.quiet 3 _ hil rfl rfl (fun j k r h => by have := hks j k r h; omega) hg hR⟩)
    · obtain rfl := Option.some.inj ho
      have f0 := hF.old (s := 5) (v := .pointer (some ⟨w.heap.size + 1, 0, none⟩)) (by kernel_rfl) rfl
      exact wp_val (.agg (nw 9 m)) (by simp [go_sem, f0, hbm]) ⟨_, rfl, RG.quiet 4 _ hil rfl rfl (fun j k r h => by have := hks j k r h; omega) (Gr.refl _) hR⟩
    · obtain rfl := Option.some.inj ho
      have l0 := hd ⟨0, .data⟩ (by simp) rfl
      have f0 := hF.at (s := 25) (i := 0) (by kernel_rfl) (by simp) l0
      rw [hR.2.1 0 _ l0 rfl] at f0
      have l1 := hd ⟨3, .data⟩ (by simp) rfl
      have f1 := hF.at (s := 28) (i := 3) (by kernel_rfl) (by simp) l1
      rw [hR.2.1 3 _ l1 rfl] at f1
      have l2 := hd ⟨4, .data⟩ (by simp) rfl
      have f2 := hF.at (s := 29) (i := 4) (by kernel_rfl) (by simp) l2
      rw [hR.2.1 4 _ l2 rfl] at f2
      exact wp_ret (.tuple #[.agg (nw 9 p), .int .i64 0]) (by simp [go_sem, f0, f1, f2]) (PA.out _) (fun w2 hg => ⟨_, rfl, RG.quiet 5 _ hil rfl rfl (fun j k r h => by have := hks j k r h; omega) hg hR⟩)
    · obtain rfl := Option.some.inj ho
      have l0 := hd ⟨5, .data⟩ (by simp) rfl
      have f0 := hF.at (s := 30) (i := 5) (by kernel_rfl) (by simp) l0
      rw [hR.2.1 5 _ l0 rfl] at f0
      exact wp_val (.tuple #[.agg (nw 9 p), .int .i64 0]) (by simp [go_sem, f0]) ⟨_, rfl, RG.quiet 6 _ hil rfl rfl (fun j k r h => by have := hks j k r h; omega) (Gr.refl _) hR⟩
    · obtain rfl := Option.some.inj ho
      have l0 := hd ⟨6, .data⟩ (by simp) rfl
      have f0 := hF.at (s := 24) (i := 6) (by kernel_rfl) (by simp) l0
      rw [hR.2.1 6 _ l0 rfl] at f0
      exact wp_val (.agg (nw 9 p)) (by simp [go_sem, f0]) ⟨_, rfl, RG.quiet 7 _ hil rfl rfl (fun j k r h => by have := hks j k r h; omega) (Gr.refl _) hR⟩
    · obtain rfl := Option.some.inj ho
      have l0 := hd ⟨6, .data⟩ (by simp) rfl
      have f0 := hF.at (s := 24) (i := 6) (by kernel_rfl) (by simp) l0
      rw [hR.2.1 6 _ l0 rfl] at f0
      exact wp_val (.int .i64 0) (by simp [go_sem, f0]) ⟨_, rfl, RG.quiet 8 _ hil rfl rfl (fun j k r h => by have := hks j k r h; omega) (Gr.refl _) hR⟩
    · obtain rfl := Option.some.inj ho
      exact wp_val (.pointer (some ⟨v1.heap.size, 0, none⟩)) (w' := v1.alloc (.cells (nw 9 0) 25)) (by simp [go_sem]) ⟨_, rfl, RG.alloc 9 (nw 9 0) 25 hil hl rfl rfl (fun j k r h => by have := hks j k r h; omega) hR⟩
    · obtain rfl := Option.some.inj ho
      have l0 := hd ⟨9, .data⟩ (by simp) rfl
      have l1 := hd ⟨7, .data⟩ (by simp) rfl
      obtain ⟨B, h4, h5⟩ := hR.2.2.2
      obtain ⟨e1, e2, e3, e4, e5⟩ := h4 9 (nw 9 0) l0 rfl
      simp only [hl] at e5
      replace e5 : blk v1 (B 9) = nw 9 0 := e5
      have f0 := hF.at (s := 9) (i := 9) (by kernel_rfl) (by simp) l0
      rw [e1] at f0
      have f1 := hF.at (s := 31) (i := 7) (by kernel_rfl) (by simp) l1
      rw [hR.2.1 7 _ l1 rfl] at f1
      exact wp_skip (w' := setBlk v1 (B 9) (nw 9 p)) (by simp [go_sem, f0, f1, e4, e5]) ⟨undef, rfl, RG.store 10 9 (nw 9 0) (nw 9 p) (B 9) hil hl rfl rfl rfl l0 rfl (by rw [nw_size]; decide) e1 (fun k r h => by have := hks k _ r h; omega) hR⟩
    · obtain rfl := Option.some.inj ho
      have l0 := hd ⟨8, .data⟩ (by simp) rfl
      have f0 := hF.at (s := 32) (i := 8) (by kernel_rfl) (by simp) l0
      rw [hR.2.1 8 _ l0 rfl] at f0
      exact wp_val (.int .i64 0) (by simp [go_sem, f0]) ⟨_, rfl, RG.quiet 11 _ hil rfl rfl (fun j k r h => by have := hks j k r h; omega) (Gr.refl _) hR⟩
  case hf =>
    intro listed vals a1 v1 hall hR hF
    have hba : blk v1 (w.heap.size) = nw 9 a := (blk_of _ _ _ (hR.1.below.block (w.heap.size) (by simp [go_sem] <;> omega))).trans (by simp [go_sem])
    have phba : Pre (w.heap.size + 1) v1.heap.size := Nat.le_trans (show w.heap.size + 1 ≤ _ from by simp [go_sem] <;> omega) hR.1.below.size
    have hbm : blk v1 (w.heap.size + 1) = nw 9 m := (blk_of _ _ _ (hR.1.below.block (w.heap.size + 1) (by simp [go_sem] <;> omega))).trans (by simp [go_sem])
    have phbm : Pre (w.heap.size + 1 + 1) v1.heap.size := Nat.le_trans (show w.heap.size + 1 + 1 ≤ _ from by simp [go_sem] <;> omega) hR.1.below.size
    have hV := hR.2.1
    obtain ⟨B, h4, h5⟩ := hR.2.2.2
    have x0r := hV 0 _ (hall 0 (by simp)) rfl
    have x1r := hV 1 _ (hall 1 (by simp)) rfl
    have x2r := hV 2 _ (hall 2 (by simp)) rfl
    have x3r := hV 3 _ (hall 3 (by simp)) rfl
    have x4r := hV 4 _ (hall 4 (by simp)) rfl
    have x5r := hV 5 _ (hall 5 (by simp)) rfl
    have x6r := hV 6 _ (hall 6 (by simp)) rfl
    have x7r := hV 7 _ (hall 7 (by simp)) rfl
    have x8r := hV 8 _ (hall 8 (by simp)) rfl
    have x11r := hV 11 _ (hall 11 (by simp)) rfl
    obtain ⟨x9r, q9r, p9r, z9r, y9r⟩ := h4 9 _ (hall 9 (by simp)) rfl
    simp only [hall 10 (by simp), if_true] at y9r
    replace p9r : Pre (B 9 + 1) v1.heap.size := p9r
    replace y9r : blk v1 (B 9) = nw 9 p := y9r
    have hb1 := hR.1
    rw [hF.final (by kernel_rfl) hall]
    simp only [putFrom, Act.put, List.setIfInBounds_toArray, List.set_cons_zero, List.set_cons_succ, x0r, x1r, x2r, x3r, x4r, x5r, x6r, x7r, x8r, x11r, x9r]
    generalize B 9 = b9r at *
    clear hV h4 h5 hR hF hall x0r x1r x2r x3r x4r x5r x6r x7r x8r x11r x9r
    have HG1 : Hid (Gr w v1) := by show Gr w v1; refine Gr.trans ?_ hb1; exact (by repeat (first | exact Gr.refl _ | apply Gr.drewN | apply Gr.drew | apply Gr.alloc | apply Gr.gro))
    clear hb1
    go_wp2_with fail
    refine wp_region_mix (by kernel_rfl) (by kernel_rfl) (RG _ (fun i => match i with | 0 => some (.agg (nw 9 a)) | 1 => some (.int .u64 (nj : Int)) | 2 => some (.int .u64 (J : Int)) | 3 => some (.agg (nw 9 J)) | 4 => some (.agg (nw 9 m)) | 5 => some (.tuple #[.agg (nw 9 q), .int .i64 0]) | 6 => some (.tuple #[.agg (nw 9 q), .int .i64 0]) | 7 => some (.agg (nw 9 q)) | 8 => some (.int .i64 0) | 11 => some (.int .i64 0) | _ => none) (fun i => match i with | 9 => some (nw 9 0) | _ => none) (fun i => match i with | 9 => some (10, nw 9 q) | _ => none)) (RG.start _ _ _ _ _ _) ?hs ?hf
    case hs =>
      intro listed vals a1 v2 i o hz hR hF ho hl hd
      have hks : ∀ (j k : Nat) (r : Array Value), (match j with | 9 => some (10, nw 9 q) | _ => (none : Option (Nat × Array Value))) = some (k, r) → (j = 9 ∧ k = 10) := fun j k r h => by
        split at h <;> simp_all
      have hbak : blk v2 (w.heap.size) = nw 9 a := (blk_of _ _ _ (hR.1.below.block (w.heap.size) (phba))).trans (hba)
      have hbmk : blk v2 (w.heap.size + 1) = nw 9 m := (blk_of _ _ _ (hR.1.below.block (w.heap.size + 1) (phbm))).trans (hbm)
      have hbpk : blk v2 (b9r) = nw 9 p := (blk_of _ _ _ (hR.1.below.block (b9r) (p9r))).trans (y9r)
      have hi : i < 12 := by simpa using (Array.getElem?_eq_some_iff.1 ho).1
      have hil : i < listed.size := by rw [hz]; simpa using hi
      obtain rfl | rfl | rfl | rfl | rfl | rfl | rfl | rfl | rfl | rfl | rfl | rfl : i = 0 ∨ i = 1 ∨ i = 2 ∨ i = 3 ∨ i = 4 ∨ i = 5 ∨ i = 6 ∨ i = 7 ∨ i = 8 ∨ i = 9 ∨ i = 10 ∨ i = 11 := by omega
      · obtain rfl := Option.some.inj ho
        have f0 := hF.old (s := 4) (v := .pointer (some ⟨w.heap.size, 0, none⟩)) (by kernel_rfl) rfl
        exact wp_val (.agg (nw 9 a)) (by simp [go_sem, f0, hbak]) ⟨_, rfl, RG.quiet 0 _ hil rfl rfl (fun j k r h => by have := hks j k r h; omega) (Gr.refl _) hR⟩
      · obtain rfl := Option.some.inj ho
        have f0 := hF.old (s := 3) (v := .int .u64 (nj : Int)) (by kernel_rfl) rfl
        exact wp_val (.int .u64 (nj : Int)) (by simp [go_sem, f0]) ⟨_, rfl, RG.quiet 1 _ hil rfl rfl (fun j k r h => by have := hks j k r h; omega) (Gr.refl _) hR⟩
      · obtain rfl := Option.some.inj ho
        have l0 := hd ⟨1, .data⟩ (by simp) rfl
        have f0 := hF.at (s := 35) (i := 1) (by kernel_rfl) (by simp) l0
        rw [hR.2.1 1 _ l0 rfl] at f0
        exact wp_val (.int .u64 (J : Int)) (by simp [go_sem, f0, j1, j2]) ⟨_, rfl, RG.quiet 2 _ hil rfl rfl (fun j k r h => by have := hks j k r h; omega) (Gr.refl _) hR⟩
      · obtain rfl := Option.some.inj ho
        have l0 := hd ⟨2, .data⟩ (by simp) rfl
        have f0 := hF.at (s := 36) (i := 2) (by kernel_rfl) (by simp) l0
        rw [hR.2.1 2 _ l0 rfl] at f0
        exact wp_ret (.agg (nw 9 J)) (by simp [go_sem, f0]) (OJ.out _) (fun w2 hg => ⟨_, rfl, RG.quiet 3 _ hil rfl rfl (fun j k r h => by have := hks j k r h; omega) hg hR⟩)
      · obtain rfl := Option.some.inj ho
        have f0 := hF.old (s := 5) (v := .pointer (some ⟨w.heap.size + 1, 0, none⟩)) (by kernel_rfl) rfl
        exact wp_val (.agg (nw 9 m)) (by simp [go_sem, f0, hbmk]) ⟨_, rfl, RG.quiet 4 _ hil rfl rfl (fun j k r h => by have := hks j k r h; omega) (Gr.refl _) hR⟩
      · obtain rfl := Option.some.inj ho
        have l0 := hd ⟨0, .data⟩ (by simp) rfl
        have f0 := hF.at (s := 34) (i := 0) (by kernel_rfl) (by simp) l0
        rw [hR.2.1 0 _ l0 rfl] at f0
        have l1 := hd ⟨3, .data⟩ (by simp) rfl
        have f1 := hF.at (s := 37) (i := 3) (by kernel_rfl) (by simp) l1
        rw [hR.2.1 3 _ l1 rfl] at f1
        have l2 := hd ⟨4, .data⟩ (by simp) rfl
        have f2 := hF.at (s := 38) (i := 4) (by kernel_rfl) (by simp) l2
        rw [hR.2.1 4 _ l2 rfl] at f2
        exact wp_ret (.tuple #[.agg (nw 9 q), .int .i64 0]) (by simp [go_sem, f0, f1, f2]) (PB.out _) (fun w2 hg => ⟨_, rfl, RG.quiet 5 _ hil rfl rfl (fun j k r h => by have := hks j k r h; omega) hg hR⟩)
      · obtain rfl := Option.some.inj ho
        have l0 := hd ⟨5, .data⟩ (by simp) rfl
        have f0 := hF.at (s := 39) (i := 5) (by kernel_rfl) (by simp) l0
        rw [hR.2.1 5 _ l0 rfl] at f0
        exact wp_val (.tuple #[.agg (nw 9 q), .int .i64 0]) (by simp [go_sem, f0]) ⟨_, rfl, RG.quiet 6 _ hil rfl rfl (fun j k r h => by have := hks j k r h; omega) (Gr.refl _) hR⟩
      · obtain rfl := Option.some.inj ho
        have l0 := hd ⟨6, .data⟩ (by simp) rfl
        have f0 := hF.at (s := 33) (i := 6) (by kernel_rfl) (by simp) l0
        rw [hR.2.1 6 _ l0 rfl] at f0
        exact wp_val (.agg (nw 9 q)) (by simp [go_sem, f0]) ⟨_, rfl, RG.quiet 7 _ hil rfl rfl (fun j k r h => by have := hks j k r h; omega) (Gr.refl _) hR⟩
      · obtain rfl := Option.some.inj ho
        have l0 := hd ⟨6, .data⟩ (by simp) rfl
        have f0 := hF.at (s := 33) (i := 6) (by kernel_rfl) (by simp) l0
        rw [hR.2.1 6 _ l0 rfl] at f0
        exact wp_val (.int .i64 0) (by simp [go_sem, f0]) ⟨_, rfl, RG.quiet 8 _ hil rfl rfl (fun j k r h => by have := hks j k r h; omega) (Gr.refl _) hR⟩
      · obtain rfl := Option.some.inj ho
        exact wp_val (.pointer (some ⟨v2.heap.size, 0, none⟩)) (w' := v2.alloc (.cells (nw 9 0) 25)) (by simp [go_sem]) ⟨_, rfl, RG.alloc 9 (nw 9 0) 25 hil hl rfl rfl (fun j k r h => by have := hks j k r h; omega) hR⟩
      · obtain rfl := Option.some.inj ho
        have l0 := hd ⟨9, .data⟩ (by simp) rfl
        have l1 := hd ⟨7, .data⟩ (by simp) rfl
        obtain ⟨B, h4, h5⟩ := hR.2.2.2
        obtain ⟨e1, e2, e3, e4, e5⟩ := h4 9 (nw 9 0) l0 rfl
        simp only [hl] at e5
        replace e5 : blk v2 (B 9) = nw 9 0 := e5
        have f0 := hF.at (s := 11) (i := 9) (by kernel_rfl) (by simp) l0
        rw [e1] at f0
        have f1 := hF.at (s := 40) (i := 7) (by kernel_rfl) (by simp) l1
        rw [hR.2.1 7 _ l1 rfl] at f1
        exact wp_skip (w' := setBlk v2 (B 9) (nw 9 q)) (by simp [go_sem, f0, f1, e4, e5]) ⟨undef, rfl, RG.store 10 9 (nw 9 0) (nw 9 q) (B 9) hil hl rfl rfl rfl l0 rfl (by rw [nw_size]; decide) e1 (fun k r h => by have := hks k _ r h; omega) hR⟩
      · obtain rfl := Option.some.inj ho
        have l0 := hd ⟨8, .data⟩ (by simp) rfl
        have f0 := hF.at (s := 41) (i := 8) (by kernel_rfl) (by simp) l0
        rw [hR.2.1 8 _ l0 rfl] at f0
        exact wp_val (.int .i64 0) (by simp [go_sem, f0]) ⟨_, rfl, RG.quiet 11 _ hil rfl rfl (fun j k r h => by have := hks j k r h; omega) (Gr.refl _) hR⟩
    case hf =>
      intro listed vals a1 v2 hall hR hF
      have hbak : blk v2 (w.heap.size) = nw 9 a := (blk_of _ _ _ (hR.1.below.block (w.heap.size) (phba))).trans (hba)
      have phbak : Pre (w.heap.size + 1) v2.heap.size := Nat.le_trans (show w.heap.size + 1 ≤ _ from phba) hR.1.below.size
      have hbmk : blk v2 (w.heap.size + 1) = nw 9 m := (blk_of _ _ _ (hR.1.below.block (w.heap.size + 1) (phbm))).trans (hbm)
      have phbmk : Pre (w.heap.size + 1 + 1) v2.heap.size := Nat.le_trans (show w.heap.size + 1 + 1 ≤ _ from phbm) hR.1.below.size
      have hbpk : blk v2 (b9r) = nw 9 p := (blk_of _ _ _ (hR.1.below.block (b9r) (p9r))).trans (y9r)
      have phbpk : Pre (b9r + 1) v2.heap.size := Nat.le_trans (show b9r + 1 ≤ _ from p9r) hR.1.below.size
      have hV := hR.2.1
      obtain ⟨B, h4, h5⟩ := hR.2.2.2
      have x0s := hV 0 _ (hall 0 (by simp)) rfl
      have x1s := hV 1 _ (hall 1 (by simp)) rfl
      have x2s := hV 2 _ (hall 2 (by simp)) rfl
      have x3s := hV 3 _ (hall 3 (by simp)) rfl
      have x4s := hV 4 _ (hall 4 (by simp)) rfl
      have x5s := hV 5 _ (hall 5 (by simp)) rfl
      have x6s := hV 6 _ (hall 6 (by simp)) rfl
      have x7s := hV 7 _ (hall 7 (by simp)) rfl
      have x8s := hV 8 _ (hall 8 (by simp)) rfl
      have x11s := hV 11 _ (hall 11 (by simp)) rfl
      obtain ⟨x9s, q9s, p9s, z9s, y9s⟩ := h4 9 _ (hall 9 (by simp)) rfl
      simp only [hall 10 (by simp), if_true] at y9s
      replace p9s : Pre (B 9 + 1) v2.heap.size := p9s
      replace y9s : blk v2 (B 9) = nw 9 q := y9s
      have hb1 := hR.1
      rw [hF.final (by kernel_rfl) hall]
      simp only [putFrom, Act.put, List.setIfInBounds_toArray, List.set_cons_zero, List.set_cons_succ, x0s, x1s, x2s, x3s, x4s, x5s, x6s, x7s, x8s, x11s, x9s]
      generalize B 9 = b9s at *
      clear hV h4 h5 hR hF hall x0s x1s x2s x3s x4s x5s x6s x7s x8s x11s x9s
      have HG2 : Hid (Gr w v2) := HG1.out.trans hb1
      clear hb1 hba hbm phba phbm y9r HG1
      go_wp2_with fail
      refine wp_region_mix (by kernel_rfl) (by kernel_rfl) (RG _ (fun i => match i with | 0 => some (.agg (nw 9 a)) | 1 => some (.int .u64 (ni : Int)) | 2 => some (.int .u64 (I : Int)) | 3 => some (.int .u64 (nj : Int)) | 4 => some (.int .u64 (J : Int)) | 5 => some (.int .u64 (K : Int)) | 6 => some (.agg (nw 9 K)) | 7 => some (.agg (nw 9 m)) | 8 => some (.tuple #[.agg (nw 9 s), .int .i64 0]) | 9 => some (.tuple #[.agg (nw 9 s), .int .i64 0]) | 10 => some (.agg (nw 9 s)) | 11 => some (.int .i64 0) | 14 => some (.int .i64 0) | _ => none) (fun i => match i with | 12 => some (nw 9 0) | _ => none) (fun i => match i with | 12 => some (13, nw 9 s) | _ => none)) (RG.start _ _ _ _ _ _) ?hs ?hf
      case hs =>
        intro listed vals a1 v3 i o hz hR hF ho hl hd
        have hks : ∀ (j k : Nat) (r : Array Value), (match j with | 12 => some (13, nw 9 s) | _ => (none : Option (Nat × Array Value))) = some (k, r) → (j = 12 ∧ k = 13) := fun j k r h => by
          split at h <;> simp_all
        have hbal : blk v3 (w.heap.size) = nw 9 a := (blk_of _ _ _ (hR.1.below.block (w.heap.size) (phbak))).trans (hbak)
        have hbml : blk v3 (w.heap.size + 1) = nw 9 m := (blk_of _ _ _ (hR.1.below.block (w.heap.size + 1) (phbmk))).trans (hbmk)
        have hbpl : blk v3 (b9r) = nw 9 p := (blk_of _ _ _ (hR.1.below.block (b9r) (phbpk))).trans (hbpk)
        have hbql : blk v3 (b9s) = nw 9 q := (blk_of _ _ _ (hR.1.below.block (b9s) (p9s))).trans (y9s)
        have hi : i < 15 := by simpa using (Array.getElem?_eq_some_iff.1 ho).1
        have hil : i < listed.size := by rw [hz]; simpa using hi
        obtain rfl | rfl | rfl | rfl | rfl | rfl | rfl | rfl | rfl | rfl | rfl | rfl | rfl | rfl | rfl : i = 0 ∨ i = 1 ∨ i = 2 ∨ i = 3 ∨ i = 4 ∨ i = 5 ∨ i = 6 ∨ i = 7 ∨ i = 8 ∨ i = 9 ∨ i = 10 ∨ i = 11 ∨ i = 12 ∨ i = 13 ∨ i = 14 := by omega
        · obtain rfl := Option.some.inj ho
          have f0 := hF.old (s := 4) (v := .pointer (some ⟨w.heap.size, 0, none⟩)) (by kernel_rfl) rfl
          exact wp_val (.agg (nw 9 a)) (by simp [go_sem, f0, hbal]) ⟨_, rfl, RG.quiet 0 _ hil rfl rfl (fun j k r h => by have := hks j k r h; omega) (Gr.refl _) hR⟩
        · obtain rfl := Option.some.inj ho
          have f0 := hF.old (s := 2) (v := .int .u64 (ni : Int)) (by kernel_rfl) rfl
          exact wp_val (.int .u64 (ni : Int)) (by simp [go_sem, f0]) ⟨_, rfl, RG.quiet 1 _ hil rfl rfl (fun j k r h => by have := hks j k r h; omega) (Gr.refl _) hR⟩
        · obtain rfl := Option.some.inj ho
          have l0 := hd ⟨1, .data⟩ (by simp) rfl
          have f0 := hF.at (s := 44) (i := 1) (by kernel_rfl) (by simp) l0
          rw [hR.2.1 1 _ l0 rfl] at f0
          exact wp_val (.int .u64 (I : Int)) (by simp [go_sem, f0, i1, i2]) ⟨_, rfl, RG.quiet 2 _ hil rfl rfl (fun j k r h => by have := hks j k r h; omega) (Gr.refl _) hR⟩
        · obtain rfl := Option.some.inj ho
          have f0 := hF.old (s := 3) (v := .int .u64 (nj : Int)) (by kernel_rfl) rfl
          exact wp_val (.int .u64 (nj : Int)) (by simp [go_sem, f0]) ⟨_, rfl, RG.quiet 3 _ hil rfl rfl (fun j k r h => by have := hks j k r h; omega) (Gr.refl _) hR⟩
        · obtain rfl := Option.some.inj ho
          have l0 := hd ⟨3, .data⟩ (by simp) rfl
          have f0 := hF.at (s := 46) (i := 3) (by kernel_rfl) (by simp) l0
          rw [hR.2.1 3 _ l0 rfl] at f0
          exact wp_val (.int .u64 (J : Int)) (by simp [go_sem, f0, j1, j2]) ⟨_, rfl, RG.quiet 4 _ hil rfl rfl (fun j k r h => by have := hks j k r h; omega) (Gr.refl _) hR⟩
        · obtain rfl := Option.some.inj ho
          have l0 := hd ⟨2, .data⟩ (by simp) rfl
          have f0 := hF.at (s := 45) (i := 2) (by kernel_rfl) (by simp) l0
          rw [hR.2.1 2 _ l0 rfl] at f0
          have l1 := hd ⟨4, .data⟩ (by simp) rfl
          have f1 := hF.at (s := 47) (i := 4) (by kernel_rfl) (by simp) l1
          rw [hR.2.1 4 _ l1 rfl] at f1
          exact wp_val (.int .u64 (K : Int)) (by simp [go_sem, f0, f1, k1, k2]) ⟨_, rfl, RG.quiet 5 _ hil rfl rfl (fun j k r h => by have := hks j k r h; omega) (Gr.refl _) hR⟩
        · obtain rfl := Option.some.inj ho
          have l0 := hd ⟨5, .data⟩ (by simp) rfl
          have f0 := hF.at (s := 48) (i := 5) (by kernel_rfl) (by simp) l0
          rw [hR.2.1 5 _ l0 rfl] at f0
          exact wp_ret (.agg (nw 9 K)) (by simp [go_sem, f0]) (OK1.out _) (fun w2 hg => ⟨_, rfl, RG.quiet 6 _ hil rfl rfl (fun j k r h => by have := hks j k r h; omega) hg hR⟩)
        · obtain rfl := Option.some.inj ho
          have f0 := hF.old (s := 5) (v := .pointer (some ⟨w.heap.size + 1, 0, none⟩)) (by kernel_rfl) rfl
          exact wp_val (.agg (nw 9 m)) (by simp [go_sem, f0, hbml]) ⟨_, rfl, RG.quiet 7 _ hil rfl rfl (fun j k r h => by have := hks j k r h; omega) (Gr.refl _) hR⟩
        · obtain rfl := Option.some.inj ho
          have l0 := hd ⟨0, .data⟩ (by simp) rfl
          have f0 := hF.at (s := 43) (i := 0) (by kernel_rfl) (by simp) l0
          rw [hR.2.1 0 _ l0 rfl] at f0
          have l1 := hd ⟨6, .data⟩ (by simp) rfl
          have f1 := hF.at (s := 49) (i := 6) (by kernel_rfl) (by simp) l1
          rw [hR.2.1 6 _ l1 rfl] at f1
          have l2 := hd ⟨7, .data⟩ (by simp) rfl
          have f2 := hF.at (s := 50) (i := 7) (by kernel_rfl) (by simp) l2
          rw [hR.2.1 7 _ l2 rfl] at f2
          exact wp_ret (.tuple #[.agg (nw 9 s), .int .i64 0]) (by simp [go_sem, f0, f1, f2]) (PC.out _) (fun w2 hg => ⟨_, rfl, RG.quiet 8 _ hil rfl rfl (fun j k r h => by have := hks j k r h; omega) hg hR⟩)
        · obtain rfl := Option.some.inj ho
          have l0 := hd ⟨8, .data⟩ (by simp) rfl
          have f0 := hF.at (s := 51) (i := 8) (by kernel_rfl) (by simp) l0
          rw [hR.2.1 8 _ l0 rfl] at f0
          exact wp_val (.tuple #[.agg (nw 9 s), .int .i64 0]) (by simp [go_sem, f0]) ⟨_, rfl, RG.quiet 9 _ hil rfl rfl (fun j k r h => by have := hks j k r h; omega) (Gr.refl _) hR⟩
        · obtain rfl := Option.some.inj ho
          have l0 := hd ⟨9, .data⟩ (by simp) rfl
          have f0 := hF.at (s := 42) (i := 9) (by kernel_rfl) (by simp) l0
          rw [hR.2.1 9 _ l0 rfl] at f0
          exact wp_val (.agg (nw 9 s)) (by simp [go_sem, f0]) ⟨_, rfl, RG.quiet 10 _ hil rfl rfl (fun j k r h => by have := hks j k r h; omega) (Gr.refl _) hR⟩
        · obtain rfl := Option.some.inj ho
          have l0 := hd ⟨9, .data⟩ (by simp) rfl
          have f0 := hF.at (s := 42) (i := 9) (by kernel_rfl) (by simp) l0
          rw [hR.2.1 9 _ l0 rfl] at f0
          exact wp_val (.int .i64 0) (by simp [go_sem, f0]) ⟨_, rfl, RG.quiet 11 _ hil rfl rfl (fun j k r h => by have := hks j k r h; omega) (Gr.refl _) hR⟩
        · obtain rfl := Option.some.inj ho
          exact wp_val (.pointer (some ⟨v3.heap.size, 0, none⟩)) (w' := v3.alloc (.cells (nw 9 0) 25)) (by simp [go_sem]) ⟨_, rfl, RG.alloc 12 (nw 9 0) 25 hil hl rfl rfl (fun j k r h => by have := hks j k r h; omega) hR⟩
        · obtain rfl := Option.some.inj ho
          have l0 := hd ⟨12, .data⟩ (by simp) rfl
          have l1 := hd ⟨10, .data⟩ (by simp) rfl
          obtain ⟨B, h4, h5⟩ := hR.2.2.2
          obtain ⟨e1, e2, e3, e4, e5⟩ := h4 12 (nw 9 0) l0 rfl
          simp only [hl] at e5
          replace e5 : blk v3 (B 12) = nw 9 0 := e5
          have f0 := hF.at (s := 13) (i := 12) (by kernel_rfl) (by simp) l0
          rw [e1] at f0
          have f1 := hF.at (s := 52) (i := 10) (by kernel_rfl) (by simp) l1
          rw [hR.2.1 10 _ l1 rfl] at f1
          exact wp_skip (w' := setBlk v3 (B 12) (nw 9 s)) (by simp [go_sem, f0, f1, e4, e5]) ⟨undef, rfl, RG.store 13 12 (nw 9 0) (nw 9 s) (B 12) hil hl rfl rfl rfl l0 rfl (by rw [nw_size]; decide) e1 (fun k r h => by have := hks k _ r h; omega) hR⟩
        · obtain rfl := Option.some.inj ho
          have l0 := hd ⟨11, .data⟩ (by simp) rfl
          have f0 := hF.at (s := 53) (i := 11) (by kernel_rfl) (by simp) l0
          rw [hR.2.1 11 _ l0 rfl] at f0
          exact wp_val (.int .i64 0) (by simp [go_sem, f0]) ⟨_, rfl, RG.quiet 14 _ hil rfl rfl (fun j k r h => by have := hks j k r h; omega) (Gr.refl _) hR⟩
      case hf =>
        intro listed vals a1 v3 hall hR hF
        have hbal : blk v3 (w.heap.size) = nw 9 a := (blk_of _ _ _ (hR.1.below.block (w.heap.size) (phbak))).trans (hbak)
        have phbal : Pre (w.heap.size + 1) v3.heap.size := Nat.le_trans (show w.heap.size + 1 ≤ _ from phbak) hR.1.below.size
        have hbml : blk v3 (w.heap.size + 1) = nw 9 m := (blk_of _ _ _ (hR.1.below.block (w.heap.size + 1) (phbmk))).trans (hbmk)
        have phbml : Pre (w.heap.size + 1 + 1) v3.heap.size := Nat.le_trans (show w.heap.size + 1 + 1 ≤ _ from phbmk) hR.1.below.size
        have hbpl : blk v3 (b9r) = nw 9 p := (blk_of _ _ _ (hR.1.below.block (b9r) (phbpk))).trans (hbpk)
        have phbpl : Pre (b9r + 1) v3.heap.size := Nat.le_trans (show b9r + 1 ≤ _ from phbpk) hR.1.below.size
        have hbql : blk v3 (b9s) = nw 9 q := (blk_of _ _ _ (hR.1.below.block (b9s) (p9s))).trans (y9s)
        have phbql : Pre (b9s + 1) v3.heap.size := Nat.le_trans (show b9s + 1 ≤ _ from p9s) hR.1.below.size
        have hV := hR.2.1
        obtain ⟨B, h4, h5⟩ := hR.2.2.2
        have x0t := hV 0 _ (hall 0 (by simp)) rfl
        have x1t := hV 1 _ (hall 1 (by simp)) rfl
        have x2t := hV 2 _ (hall 2 (by simp)) rfl
        have x3t := hV 3 _ (hall 3 (by simp)) rfl
        have x4t := hV 4 _ (hall 4 (by simp)) rfl
        have x5t := hV 5 _ (hall 5 (by simp)) rfl
        have x6t := hV 6 _ (hall 6 (by simp)) rfl
        have x7t := hV 7 _ (hall 7 (by simp)) rfl
        have x8t := hV 8 _ (hall 8 (by simp)) rfl
        have x9t := hV 9 _ (hall 9 (by simp)) rfl
        have x10t := hV 10 _ (hall 10 (by simp)) rfl
        have x11t := hV 11 _ (hall 11 (by simp)) rfl
        have x14t := hV 14 _ (hall 14 (by simp)) rfl
        obtain ⟨x12t, q12t, p12t, z12t, y12t⟩ := h4 12 _ (hall 12 (by simp)) rfl
        simp only [hall 13 (by simp), if_true] at y12t
        replace p12t : Pre (B 12 + 1) v3.heap.size := p12t
        replace y12t : blk v3 (B 12) = nw 9 s := y12t
        have hb1 := hR.1
        rw [hF.final (by kernel_rfl) hall]
        simp only [putFrom, Act.put, List.setIfInBounds_toArray, List.set_cons_zero, List.set_cons_succ, x0t, x1t, x2t, x3t, x4t, x5t, x6t, x7t, x8t, x9t, x10t, x11t, x14t, x12t]
        generalize B 12 = b12t at *
        clear hV h4 h5 hR hF hall x0t x1t x2t x3t x4t x5t x6t x7t x8t x9t x10t x11t x14t x12t
        have HG3 : Hid (Gr w v3) := HG2.out.trans hb1
        clear hb1 hbak hbmk phbak phbmk hbpk y9s HG2
        go_wp2_with (first
          | (go_at_call 14; refine (MM.out _).mono ?_; rintro e w' ⟨rfl, gMM, rfl⟩)
          | (go_at_call 23; refine (PZ.out _).mono ?_; rintro e w' ⟨rfl, gPZ, rfl⟩)
          | (go_at_call 16; refine (num_any _ _).mono ?_; rintro e w' ⟨rfl, rfl⟩))
        obtain ⟨W2, hW2⟩ : ∃ W, (gro ((gro v3 gMM).alloc (.cells (nw 9 s) 25)) gPZ).alloc (.cells (nw 9 oo) 25) = W := ⟨_, rfl⟩
        have k8 : Gr v3 W2 := by rw [← hW2]; exact (by repeat (first | exact Gr.refl _ | apply Gr.drewN | apply Gr.drew | apply Gr.alloc | apply Gr.gro))
        have pk : ∀ x, Pre x v3.heap.size → Pre x W2.heap.size := fun x h => Nat.le_trans h k8.below.size
        have fm : blk W2 (w.heap.size + 1) = nw 9 m := (k8.blk _ phbml).trans hbml
        have jm : Pre (w.heap.size + 1 + 1) W2.heap.size := pk _ phbml
        have fs : blk W2 b12t = nw 9 s := (k8.blk _ p12t).trans y12t
        have js : Pre (b12t + 1) W2.heap.size := pk _ p12t
        have ft : blk W2 (v3.heap.size + gMM.os.length) = nw 9 s := by rw [← hW2]; simp [go_sem]
        have jt : Pre ((v3.heap.size + gMM.os.length) + 1) W2.heap.size := by rw [← hW2]; simp [go_sem]
        have fo : blk W2 (v3.heap.size + gMM.os.length + 1 + gPZ.os.length) = nw 9 oo := by rw [← hW2]; simp [go_sem]
        have jo : Pre ((v3.heap.size + gMM.os.length + 1 + gPZ.os.length) + 1) W2.heap.size := by rw [← hW2]; simp [go_sem]
        have HG4 : Hid (Gr w W2) := HG3.out.trans k8
        rw [hW2]
        clear hW2 k8 pk HG3
        generalize (v3.heap.size + gMM.os.length + 1 + gPZ.os.length) = c17 at *
        generalize (v3.heap.size + gMM.os.length) = c15 at *
        refine wp_region_mix (by kernel_rfl) (by kernel_rfl) (RG _ (fun i => match i with | 0 => some (.agg (nw 9 1)) | 1 => some (.agg (nw 9 m)) | 2 => some (.tuple #[.agg (nw 9 oq), .agg (nw 9 oo), .int .i64 0]) | 3 => some (.tuple #[.agg (nw 9 oq), .agg (nw 9 oo), .int .i64 0]) | 4 => some (.agg (nw 9 oq)) | 5 => some (.agg (nw 9 oo)) | 6 => some (.int .i64 0) | 11 => some (.int .i64 0) | _ => none) (fun i => match i with | 7 => some (nw 9 0) | 8 => some (nw 9 0) | _ => none) (fun i => match i with | 7 => some (9, nw 9 oq) | 8 => some (10, nw 9 oo) | _ => none)) (RG.start _ _ _ _ _ _) ?hs ?hf
        case hs =>
          intro listed vals a1 v4 i o hz hR hF ho hl hd
          have hks : ∀ (j k : Nat) (r : Array Value), (match j with | 7 => some (9, nw 9 oq) | 8 => some (10, nw 9 oo) | _ => (none : Option (Nat × Array Value))) = some (k, r) → (j = 7 ∧ k = 9) ∨ (j = 8 ∧ k = 10) := fun j k r h => by
            split at h <;> simp_all
          have hbmu : blk v4 (w.heap.size + 1) = nw 9 m := (blk_of _ _ _ (hR.1.below.block (w.heap.size + 1) (jm))).trans (fm)
          have hbsu : blk v4 (b12t) = nw 9 s := (blk_of _ _ _ (hR.1.below.block (b12t) (js))).trans (fs)
          have hbtu : blk v4 (c15) = nw 9 s := (blk_of _ _ _ (hR.1.below.block (c15) (jt))).trans (ft)
          have hbou : blk v4 (c17) = nw 9 oo := (blk_of _ _ _ (hR.1.below.block (c17) (jo))).trans (fo)
          have hi : i < 12 := by simpa using (Array.getElem?_eq_some_iff.1 ho).1
          have hil : i < listed.size := by rw [hz]; simpa using hi
          obtain rfl | rfl | rfl | rfl | rfl | rfl | rfl | rfl | rfl | rfl | rfl | rfl : i = 0 ∨ i = 1 ∨ i = 2 ∨ i = 3 ∨ i = 4 ∨ i = 5 ∨ i = 6 ∨ i = 7 ∨ i = 8 ∨ i = 9 ∨ i = 10 ∨ i = 11 := by omega
          · obtain rfl := Option.some.inj ho
            exact wp_ret (.agg (nw 9 1)) (by simp [go_sem]) (O1.out _) (fun w2 hg => ⟨_, rfl, RG.quiet 0 _ hil rfl rfl (fun j k r h => by have := hks j k r h; omega) hg hR⟩)
          · obtain rfl := Option.some.inj ho
            have f0 := hF.old (s := 5) (v := .pointer (some ⟨w.heap.size + 1, 0, none⟩)) (by kernel_rfl) rfl
            exact wp_val (.agg (nw 9 m)) (by simp [go_sem, f0, hbmu]) ⟨_, rfl, RG.quiet 1 _ hil rfl rfl (fun j k r h => by have := hks j k r h; omega) (Gr.refl _) hR⟩
          · obtain rfl := Option.some.inj ho
            have l0 := hd ⟨0, .data⟩ (by simp) rfl
            have f0 := hF.at (s := 80) (i := 0) (by kernel_rfl) (by simp) l0
            rw [hR.2.1 0 _ l0 rfl] at f0
            have l1 := hd ⟨1, .data⟩ (by simp) rfl
            have f1 := hF.at (s := 81) (i := 1) (by kernel_rfl) (by simp) l1
            rw [hR.2.1 1 _ l1 rfl] at f1
            exact wp_ret (.tuple #[.agg (nw 9 oq), .agg (nw 9 oo), .int .i64 0]) (by simp [go_sem, f0, f1]) (D1.out _) (fun w2 hg => ⟨_, rfl, RG.quiet 2 _ hil rfl rfl (fun j k r h => by have := hks j k r h; omega) hg hR⟩)
          · obtain rfl := Option.some.inj ho
            have l0 := hd ⟨2, .data⟩ (by simp) rfl
            have f0 := hF.at (s := 82) (i := 2) (by kernel_rfl) (by simp) l0
            rw [hR.2.1 2 _ l0 rfl] at f0
            exact wp_val (.tuple #[.agg (nw 9 oq), .agg (nw 9 oo), .int .i64 0]) (by simp [go_sem, f0]) ⟨_, rfl, RG.quiet 3 _ hil rfl rfl (fun j k r h => by have := hks j k r h; omega) (Gr.refl _) hR⟩
          · obtain rfl := Option.some.inj ho
            have l0 := hd ⟨3, .data⟩ (by simp) rfl
            have f0 := hF.at (s := 79) (i := 3) (by kernel_rfl) (by simp) l0
            rw [hR.2.1 3 _ l0 rfl] at f0
            exact wp_val (.agg (nw 9 oq)) (by simp [go_sem, f0]) ⟨_, rfl, RG.quiet 4 _ hil rfl rfl (fun j k r h => by have := hks j k r h; omega) (Gr.refl _) hR⟩
          · obtain rfl := Option.some.inj ho
            have l0 := hd ⟨3, .data⟩ (by simp) rfl
            have f0 := hF.at (s := 79) (i := 3) (by kernel_rfl) (by simp) l0
            rw [hR.2.1 3 _ l0 rfl] at f0
            exact wp_val (.agg (nw 9 oo)) (by simp [go_sem, f0]) ⟨_, rfl, RG.quiet 5 _ hil rfl rfl (fun j k r h => by have := hks j k r h; omega) (Gr.refl _) hR⟩
          · obtain rfl := Option.some.inj ho
            have l0 := hd ⟨3, .data⟩ (by simp) rfl
            have f0 := hF.at (s := 79) (i := 3) (by kernel_rfl) (by simp) l0
            rw [hR.2.1 3 _ l0 rfl] at f0
            exact wp_val (.int .i64 0) (by simp [go_sem, f0]) ⟨_, rfl, RG.quiet 6 _ hil rfl rfl (fun j k r h => by have := hks j k r h; omega) (Gr.refl _) hR⟩
          · obtain rfl := Option.some.inj ho
            exact wp_val (.pointer (some ⟨v4.heap.size, 0, none⟩)) (w' := v4.alloc (.cells (nw 9 0) 25)) (by simp [go_sem]) ⟨_, rfl, RG.alloc 7 (nw 9 0) 25 hil hl rfl rfl (fun j k r h => by have := hks j k r h; omega) hR⟩
          · obtain rfl := Option.some.inj ho
            exact wp_val (.pointer (some ⟨v4.heap.size, 0, none⟩)) (w' := v4.alloc (.cells (nw 9 0) 25)) (by simp [go_sem]) ⟨_, rfl, RG.alloc 8 (nw 9 0) 25 hil hl rfl rfl (fun j k r h => by have := hks j k r h; omega) hR⟩
          · obtain rfl := Option.some.inj ho
            have l0 := hd ⟨7, .data⟩ (by simp) rfl
            have l1 := hd ⟨4, .data⟩ (by simp) rfl
            obtain ⟨B, h4, h5⟩ := hR.2.2.2
            obtain ⟨e1, e2, e3, e4, e5⟩ := h4 7 (nw 9 0) l0 rfl
            simp only [hl] at e5
            replace e5 : blk v4 (B 7) = nw 9 0 := e5
            have f0 := hF.at (s := 19) (i := 7) (by kernel_rfl) (by simp) l0
            rw [e1] at f0
            have f1 := hF.at (s := 83) (i := 4) (by kernel_rfl) (by simp) l1
            rw [hR.2.1 4 _ l1 rfl] at f1
            exact wp_skip (w' := setBlk v4 (B 7) (nw 9 oq)) (by simp [go_sem, f0, f1, e4, e5]) ⟨undef, rfl, RG.store 9 7 (nw 9 0) (nw 9 oq) (B 7) hil hl rfl rfl rfl l0 rfl (by rw [nw_size]; decide) e1 (fun k r h => by have := hks k _ r h; omega) hR⟩
          · obtain rfl := Option.some.inj ho
            have l0 := hd ⟨8, .data⟩ (by simp) rfl
            have l1 := hd ⟨5, .data⟩ (by simp) rfl
            obtain ⟨B, h4, h5⟩ := hR.2.2.2
            obtain ⟨e1, e2, e3, e4, e5⟩ := h4 8 (nw 9 0) l0 rfl
            simp only [hl] at e5
            replace e5 : blk v4 (B 8) = nw 9 0 := e5
            have f0 := hF.at (s := 20) (i := 8) (by kernel_rfl) (by simp) l0
            rw [e1] at f0
            have f1 := hF.at (s := 84) (i := 5) (by kernel_rfl) (by simp) l1
            rw [hR.2.1 5 _ l1 rfl] at f1
            exact wp_skip (w' := setBlk v4 (B 8) (nw 9 oo)) (by simp [go_sem, f0, f1, e4, e5]) ⟨undef, rfl, RG.store 10 8 (nw 9 0) (nw 9 oo) (B 8) hil hl rfl rfl rfl l0 rfl (by rw [nw_size]; decide) e1 (fun k r h => by have := hks k _ r h; omega) hR⟩
          · obtain rfl := Option.some.inj ho
            have l0 := hd ⟨6, .data⟩ (by simp) rfl
            have f0 := hF.at (s := 85) (i := 6) (by kernel_rfl) (by simp) l0
            rw [hR.2.1 6 _ l0 rfl] at f0
            exact wp_val (.int .i64 0) (by simp [go_sem, f0]) ⟨_, rfl, RG.quiet 11 _ hil rfl rfl (fun j k r h => by have := hks j k r h; omega) (Gr.refl _) hR⟩
        case hf =>
          intro listed vals a1 v4 hall hR hF
          have hbmu : blk v4 (w.heap.size + 1) = nw 9 m := (blk_of _ _ _ (hR.1.below.block (w.heap.size + 1) (jm))).trans (fm)
          have phbmu : Pre (w.heap.size + 1 + 1) v4.heap.size := Nat.le_trans (show w.heap.size + 1 + 1 ≤ _ from jm) hR.1.below.size
          have hbsu : blk v4 (b12t) = nw 9 s := (blk_of _ _ _ (hR.1.below.block (b12t) (js))).trans (fs)
          have phbsu : Pre (b12t + 1) v4.heap.size := Nat.le_trans (show b12t + 1 ≤ _ from js) hR.1.below.size
          have hbtu : blk v4 (c15) = nw 9 s := (blk_of _ _ _ (hR.1.below.block (c15) (jt))).trans (ft)
          have phbtu : Pre (c15 + 1) v4.heap.size := Nat.le_trans (show c15 + 1 ≤ _ from jt) hR.1.below.size
          have hbou : blk v4 (c17) = nw 9 oo := (blk_of _ _ _ (hR.1.below.block (c17) (jo))).trans (fo)
          have phbou : Pre (c17 + 1) v4.heap.size := Nat.le_trans (show c17 + 1 ≤ _ from jo) hR.1.below.size
          have hV := hR.2.1
          obtain ⟨B, h4, h5⟩ := hR.2.2.2
          have x0u := hV 0 _ (hall 0 (by simp)) rfl
          have x1u := hV 1 _ (hall 1 (by simp)) rfl
          have x2u := hV 2 _ (hall 2 (by simp)) rfl
          have x3u := hV 3 _ (hall 3 (by simp)) rfl
          have x4u := hV 4 _ (hall 4 (by simp)) rfl
          have x5u := hV 5 _ (hall 5 (by simp)) rfl
          have x6u := hV 6 _ (hall 6 (by simp)) rfl
          have x11u := hV 11 _ (hall 11 (by simp)) rfl
          obtain ⟨x7u, q7u, p7u, z7u, y7u⟩ := h4 7 _ (hall 7 (by simp)) rfl
          simp only [hall 9 (by simp), if_true] at y7u
          replace p7u : Pre (B 7 + 1) v4.heap.size := p7u
          replace y7u : blk v4 (B 7) = nw 9 oq := y7u
          obtain ⟨x8u, q8u, p8u, z8u, y8u⟩ := h4 8 _ (hall 8 (by simp)) rfl
          simp only [hall 10 (by simp), if_true] at y8u
          replace p8u : Pre (B 8 + 1) v4.heap.size := p8u
          replace y8u : blk v4 (B 8) = nw 9 oo := y8u
          have hb1 := hR.1
          rw [hF.final (by kernel_rfl) hall]
          simp only [putFrom, Act.put, List.setIfInBounds_toArray, List.set_cons_zero, List.set_cons_succ, x0u, x1u, x2u, x3u, x4u, x5u, x6u, x11u, x7u, x8u]
          generalize B 7 = b7u at *
          generalize B 8 = b8u at *
          clear hV h4 h5 hR hF hall x0u x1u x2u x3u x4u x5u x6u x11u x7u x8u
          have HG5 : Hid (Gr w v4) := HG4.out.trans hb1
          clear hb1
          have q1 := eqN_self 9 s
          have q2 := eqN_self 9 oo
          go_wp2_with (go_at_call 16; refine (num_any _ _).mono ?_; rintro e w' ⟨rfl, rfl⟩)
          go_ret
          exact ⟨rfl, by repeat (first | exact HG5.out | apply Gr.drewN | apply Gr.drew | apply Gr.alloc | apply Gr.gro)⟩

theorem dexp_any (a m i j : Nat) (ha : a < M) (hm : m < M) (hi : i < 18446744073709551616) (hj : j < 18446744073709551616) (w : World) :
    Calls Try.prog 8 #[.agg (nw 9 a), .agg (nw 9 m), .int .u64 (i : Int), .int .u64 (j : Int)] w fun e w' => e = .returned (.bool true) ∧ Gr w w' := by
  obtain ⟨I, hI⟩ : ∃ I, i / 2 = I := ⟨_, rfl⟩
  obtain ⟨J, hJ⟩ : ∃ J, j / 2 = J := ⟨_, rfl⟩
  have i1 : (i : Int).tdiv 2 = (I : Int) := by rw [Int.tdiv_eq_ediv_of_nonneg (by omega)]; omega
  have j1 : (j : Int).tdiv 2 = (J : Int) := by rw [Int.tdiv_eq_ediv_of_nonneg (by omega)]; omega
  have i2 : IntKind.u64.wrap (I : Int) = (I : Int) := by rw [IntKind.wrap_u64]; omega
  have j2 : IntKind.u64.wrap (J : Int) = (J : Int) := by rw [IntKind.wrap_u64]; omega
  have k1 : (I : Int) + (J : Int) = ((I + J : Nat) : Int) := by omega
  have k2 : IntKind.u64.wrap ((I + J : Nat) : Int) = ((I + J : Nat) : Int) := by rw [IntKind.wrap_u64]; omega
  have lI : I < M := lt_M I (by omega)
  have lJ : J < M := lt_M J (by omega)
  have lK : I + J < M := lt_M (I + J) (by omega)
  have oI := fun w => one_any I (by omega) w
  have oJ := fun w => one_any J (by omega) w
  have oK := fun w => one_any (I + J) (by omega) w
  by_cases h0 : m = 0
  · subst h0
    exact dexp_zero a i j I J (I + J) i1 i2 j1 j2 k1 k2 oI oJ oK (fun w => pow_zero a I w) (fun w => pow_zero a J w) (fun w => pow_zero a (I + J) w) w
  · have m0 : 0 < m := by omega
    have hmM : ∀ x, x % m < M := fun x => Nat.lt_trans (Nat.mod_lt _ m0) hm
    have mm := fun w => mulMod_any (a ^ I % m) (a ^ J % m) m (hmM _) (hmM _) m0 hm w
    rw [← Nat.mul_mod, ← Nat.pow_add] at mm
    have pz := fun w => pow_any a 0 m ha M_pos m0 hm w
    rw [Nat.pow_zero] at pz
    exact dexp_more a i j I J (I + J) m _ _ _ _ _ i1 i2 j1 j2 k1 k2 oI oJ oK (fun w => pow_any a I m ha lI m0 hm w) (fun w => pow_any a J m ha lJ m0 hm w) (fun w => pow_any a (I + J) m ha lK m0 hm w) mm pz
      (fun w => one_any 1 (by decide) w) (fun w => div_any 1 m (lt_M 1 (by decide)) m0 hm w) (by rw [eqN9 m 0 hm M_pos]; exact decide_eq_false h0) w

end Go.Proofs.Ytbafjcbbiiipfaa
