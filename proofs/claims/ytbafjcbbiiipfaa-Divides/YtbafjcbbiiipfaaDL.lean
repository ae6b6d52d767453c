/-
  divide's multiple.lessTimes: what it hands back where no factor goes beyond.
-/
import Derived.Test.YtbafjcbbiiipfaaDM
import Derived.Test.YtbafjcbbiiipfaaAdd
namespace Go.Proofs.Ytbafjcbbiiipfaa
open Go.RowKit
attribute [local go_sem ↓] loadNat_is loadArr_is loadWide_is loadArrW_is storeNat_is storeWide_is
attribute [local go_sem] loadNat loadArr loadWide loadArrW storeNat storeWide idxArr fold9 fold18 nw_size nw_elem pre_self pre_1 pre_2 pre_3 pre_4 pre_5 pre_6 pre_7 pre_8 pre_9 pre_10 pre_11 pre_12 pre_13 pre_14 pre_15 pre_16 pre_17 pre_18 pre_19 pre_20 pre_21 pre_22 pre_23 pre_24 pre_25 pre_26 pre_27 pre_28 pre_29 pre_30 pre_31 pre_32 pre_33 pre_34 pre_35 pre_36 pre_37 pre_38 pre_39 pre_40 gro_size gro_drew gro_drewN drew_gro drewN_gro gro_gro blk_gro frz_gro blk_drew frz_drew blk_drewN frz_drewN blk_alloc_at frz_alloc_at blk_alloc frz_alloc cell_gro frozen_gro cell_alloc_pre frozen_alloc_pre setCell_drewN alloc_drewN setBlk_drew setBlk_drewN setBlk_alloc_at setBlk_alloc setBlk_gro setCell_gro setCell_alloc_pre size_setBlk size_setCell
attribute [local go_sem ↓] loadDv_is load19_is storeDv_is store19_is copy_is
attribute [local go_sem] idx18 loadDv load19 storeDv store19 dv_size dv_9 dv_10 dv_e9 dv_e10 dv_elem fold11 fold19 setCell_in cell_in frozen_in frz_setBlk blk_setBlk setBlk_setBlk copy_run cpA_nw ones_nw

attribute [local go_sem ↓] loadMv_is storeMv_is buildMv_is
attribute [local go_sem] loadMv storeMv loadLo loadHi ext_lo ext_hi buildMv2 buildMv1

attribute [local go_sem ↓] Go.wp_at_zero Go.wp_at_succ
attribute [local go_sem] blk_other
set_option maxRecDepth 100000 in
set_option maxHeartbeats 2400000 in
theorem less_any (xv xf ov tf : Nat) (hx : xv < M) (hxf : xf < M) (h0 : 0 < ov) (ho : ov < M) (htf : tf < M) (hF : xf + xv / ov * tf < M) (w : World) :
    Calls Try.prog 62 #[.agg (nw 18 (mvN xv xf)), .agg (nw 18 (mvN ov tf))] w fun e w' => e = .returned (.agg (nw 18 (mvN (xv % ov) (xf + xv / ov * tf)))) ∧ Gr w w' := by
  obtain ⟨D, n, u, hd, hD⟩ := divisorOf_any ov h0 ho
  have HD : Hid (∀ w, Calls Try.prog 33 #[.agg (nw 9 ov)] w fun e w' => e = .returned (.agg (dv D (n + 1) u)) ∧ Gr w w') := hD
  have HW : Hid (∀ w, Calls Try.prog 35 #[.agg (nw 9 xv)] w fun e w' => e = .returned (.agg (nw 18 xv)) ∧ Gr w w') := fun w => widen_any xv hx w
  have hs := fun w => splitD xv ov D n u hd (lt18 xv hx) w
  have hl := fun w => lowHalf_any (xv / ov) w
  have hqM := div_lt xv ov hx
  rw [Nat.mod_eq_of_lt hqM] at hl
  have hrM : xv % ov < M := Nat.lt_trans (Nat.mod_lt _ h0) ho
  have hm := fun w => mul_any (xv / ov) tf hqM htf w
  have hTM : xv / ov * tf < M := by omega
  have hl2 := fun w => lowHalf_any (xv / ov * tf) w
  rw [Nat.mod_eq_of_lt hTM] at hl2
  have ha := fun w => add_any xf (xv / ov * tf) hxf hTM w
  rw [Nat.mod_eq_of_lt hF, decide_eq_false (by omega)] at ha
  obtain ⟨q, hq⟩ : ∃ q, xv / ov = q := ⟨_, rfl⟩
  obtain ⟨rr, hr⟩ : ∃ r, xv % ov = r := ⟨_, rfl⟩
  rw [hq, hr] at hs ⊢
  rw [hr] at hrM
  rw [hq] at hl hm hl2 ha
  obtain ⟨T, hT⟩ : ∃ T, q * tf = T := ⟨_, rfl⟩
  rw [hT] at hm hl2 ha ⊢
  obtain ⟨F, hF'⟩ : ∃ F, xf + T = F := ⟨_, rfl⟩
  rw [hF'] at ha ⊢
  have HS : Hid (∀ w, Calls Try.prog 34 #[.agg (dv D (n + 1) u), .agg (nw 18 xv)] w fun e w' => e = .returned (.tuple #[.agg (nw 18 q), .agg (nw 9 rr)]) ∧ Gr w w') := hs
  have HL : Hid (∀ w, Calls Try.prog 36 #[.agg (nw 18 q)] w fun e w' => e = .returned (.agg (nw 9 q)) ∧ Gr w w') := hl
  have HM : Hid (∀ w, Calls Try.prog 27 #[.agg (nw 9 q), .agg (nw 9 tf)] w fun e w' => e = .returned (.agg (nw 18 T)) ∧ Gr w w') := hm
  have HL2 : Hid (∀ w, Calls Try.prog 36 #[.agg (nw 18 T)] w fun e w' => e = .returned (.agg (nw 9 T)) ∧ Gr w w') := hl2
  have HA : Hid (∀ w, Calls Try.prog 28 #[.agg (nw 9 xf), .agg (nw 9 T)] w fun e w' => e = .returned (.tuple #[.agg (nw 9 F), .bool false]) ∧ Gr w w') := ha
  obtain ⟨X, hX⟩ : ∃ X, mvN xv xf = X := ⟨_, rfl⟩
  obtain ⟨O, hO⟩ : ∃ O, mvN ov tf = O := ⟨_, rfl⟩
  have x1 := mv_lo xv xf hx
  have x2 := mv_hi xv xf hx
  have o1 := mv_lo ov tf ho
  have o2 := mv_hi ov tf ho
  rw [hX] at x1 x2 ⊢
  rw [hO] at o1 o2 ⊢
  have HX1 : Hid (Unit → nw 9 X = nw 9 xv) := fun _ => x1
  have HX2 : Hid (Unit → nw 9 (X / pw 9) = nw 9 xf) := fun _ => x2
  have HO1 : Hid (Unit → nw 9 O = nw 9 ov) := fun _ => o1
  have HO2 : Hid (Unit → nw 9 (O / pw 9) = nw 9 tf) := fun _ => o2
  have hap := app_mv rr F hrM
  obtain ⟨Z, hZ⟩ : ∃ Z, mvN rr F = Z := ⟨_, rfl⟩
  rw [hZ] at hap ⊢
  clear hx hxf h0 ho htf hF hd hD hs hl hqM hrM hm hTM hl2 ha hq hr hT hF' hX hO x1 x2 o1 o2 hZ
  go_enter Try.func62, Try.ntmps62
  go_wp2_with fail
  refine wp_region_mix (by kernel_rfl) (by kernel_rfl) (RG _ (fun i => match i with | 0 => some (.pointer (some ⟨w.heap.size + 1, 0, none⟩)) | 1 => some (.agg (nw 9 ov)) | 2 => some (.agg (dv D (n + 1) u)) | 3 => some (.pointer (some ⟨w.heap.size, 0, none⟩)) | 4 => some (.agg (nw 9 xv)) | 5 => some (.agg (nw 18 xv)) | 6 => some (.tuple #[.agg (nw 18 q), .agg (nw 9 rr)]) | 7 => some (.tuple #[.agg (nw 18 q), .agg (nw 9 rr)]) | 8 => some (.agg (nw 18 q)) | 9 => some (.agg (nw 9 rr)) | _ => none) (fun i => match i with | 10 => some (nw 18 0) | 11 => some (nw 9 0) | _ => none) (fun i => match i with | 10 => some (12, nw 18 q) | 11 => some (13, nw 9 rr) | _ => none)) (RG.start _ _ _ _ _ _) ?hs ?hf
  case hs =>
    intro listed vals a1 v1 i o hz hR hF ho hl hd
    have hks : ∀ (j k : Nat) (r : Array Value), (match j with | 10 => some (12, nw 18 q) | 11 => some (13, nw 9 rr) | _ => (none : Option (Nat × Array Value))) = some (k, r) → (j = 10 ∧ k = 12) ∨ (j = 11 ∧ k = 13) := fun j k r h => by
      split at h <;> simp_all
    have hbo : blk v1 (w.heap.size + 1) = nw 18 O := (blk_of _ _ _ (hR.1.below.block (w.heap.size + 1) (by simp [go_sem] <;> omega))).trans (by simp [go_sem])
    have hbx : blk v1 (w.heap.size) = nw 18 X := (blk_of _ _ _ (hR.1.below.block (w.heap.size) (by simp [go_sem] <;> omega))).trans (by simp [go_sem])
    have hbz : blk v1 (w.heap.size + 1 + 1) = nw 18 0 := (blk_of _ _ _ (hR.1.below.block (w.heap.size + 1 + 1) (by simp [go_sem] <;> omega))).trans (by simp [go_sem])
    have hi : i < 14 := by simpa using (Array.getElem?_eq_some_iff.1 ho).1
    have hil : i < listed.size := by rw [hz]; simpa using hi
    obtain rfl | rfl | rfl | rfl | rfl | rfl | rfl | rfl | rfl | rfl | rfl | rfl | rfl | rfl : i = 0 ∨ i = 1 ∨ i = 2 ∨ i = 3 ∨ i = 4 ∨ i = 5 ∨ i = 6 ∨ i = 7 ∨ i = 8 ∨ i = 9 ∨ i = 10 ∨ i = 11 ∨ i = 12 ∨ i = 13 := by omega
    · obtain rfl := Option.some.inj ho
      have f0 := hF.old (s := 3) (v := .pointer (some ⟨w.heap.size + 1, 0, none⟩)) (by kernel_rfl) rfl
      exact wp_val (.pointer (some ⟨w.heap.size + 1, 0, none⟩)) (by simp [go_sem, f0]) ⟨_, rfl, RG.quiet 0 _ hil rfl rfl (fun j k r h => by have := hks j k r h; omega) (Gr.refl _) hR⟩
    · obtain rfl := Option.some.inj ho
      have l0 := hd ⟨0, .data⟩ (by simp) rfl
      have f0 := hF.at (s := 11) (i := 0) (by kernel_rfl) (by simp) l0
      rw [hR.2.1 0 _ l0 rfl] at f0
      exact wp_val (.agg (nw 9 ov)) (by simp [go_sem, f0, hbo, HO1.out ()]) ⟨_, rfl, RG.quiet 1 _ hil rfl rfl (fun j k r h => by have := hks j k r h; omega) (Gr.refl _) hR⟩
    · obtain rfl := Option.some.inj ho
      have l0 := hd ⟨1, .data⟩ (by simp) rfl
      have f0 := hF.at (s := 12) (i := 1) (by kernel_rfl) (by simp) l0
      rw [hR.2.1 1 _ l0 rfl] at f0
      exact wp_ret (.agg (dv D (n + 1) u)) (by simp [go_sem, f0]) (HD.out _) (fun w2 hg => ⟨_, rfl, RG.quiet 2 _ hil rfl rfl (fun j k r h => by have := hks j k r h; omega) hg hR⟩)
    · obtain rfl := Option.some.inj ho
      have f0 := hF.old (s := 2) (v := .pointer (some ⟨w.heap.size, 0, none⟩)) (by kernel_rfl) rfl
      exact wp_val (.pointer (some ⟨w.heap.size, 0, none⟩)) (by simp [go_sem, f0]) ⟨_, rfl, RG.quiet 3 _ hil rfl rfl (fun j k r h => by have := hks j k r h; omega) (Gr.refl _) hR⟩
    · obtain rfl := Option.some.inj ho
      have l0 := hd ⟨3, .data⟩ (by simp) rfl
      have f0 := hF.at (s := 14) (i := 3) (by kernel_rfl) (by simp) l0
      rw [hR.2.1 3 _ l0 rfl] at f0
      exact wp_val (.agg (nw 9 xv)) (by simp [go_sem, f0, hbx, HX1.out ()]) ⟨_, rfl, RG.quiet 4 _ hil rfl rfl (fun j k r h => by have := hks j k r h; omega) (Gr.refl _) hR⟩
    · obtain rfl := Option.some.inj ho
      have l0 := hd ⟨4, .data⟩ (by simp) rfl
      have f0 := hF.at (s := 15) (i := 4) (by kernel_rfl) (by simp) l0
      rw [hR.2.1 4 _ l0 rfl] at f0
      exact wp_ret (.agg (nw 18 xv)) (by simp [go_sem, f0]) (HW.out _) (fun w2 hg => ⟨_, rfl, RG.quiet 5 _ hil rfl rfl (fun j k r h => by have := hks j k r h; omega) hg hR⟩)
    · obtain rfl := Option.some.inj ho
      have l0 := hd ⟨2, .data⟩ (by simp) rfl
      have f0 := hF.at (s := 13) (i := 2) (by kernel_rfl) (by simp) l0
      rw [hR.2.1 2 _ l0 rfl] at f0
      have l1 := hd ⟨5, .data⟩ (by simp) rfl
      have f1 := hF.at (s := 16) (i := 5) (by kernel_rfl) (by simp) l1
      rw [hR.2.1 5 _ l1 rfl] at f1
      exact wp_ret (.tuple #[.agg (nw 18 q), .agg (nw 9 rr)]) (by simp [go_sem, f0, f1]) (HS.out _) (fun w2 hg => ⟨_, rfl, RG.quiet 6 _ hil rfl rfl (fun j k r h => by have := hks j k r h; omega) hg hR⟩)
    · obtain rfl := Option.some.inj ho
      have l0 := hd ⟨6, .data⟩ (by simp) rfl
      have f0 := hF.at (s := 17) (i := 6) (by kernel_rfl) (by simp) l0
      rw [hR.2.1 6 _ l0 rfl] at f0
      exact wp_val (.tuple #[.agg (nw 18 q), .agg (nw 9 rr)]) (by simp [go_sem, f0]) ⟨_, rfl, RG.quiet 7 _ hil rfl rfl (fun j k r h => by have := hks j k r h; omega) (Gr.refl _) hR⟩
    · obtain rfl := Option.some.inj ho
      have l0 := hd ⟨7, .data⟩ (by simp) rfl
      have f0 := hF.at (s := 10) (i := 7) (by kernel_rfl) (by simp) l0
      rw [hR.2.1 7 _ l0 rfl] at f0
      exact wp_val (.agg (nw 18 q)) (by simp [go_sem, f0]) ⟨_, rfl, RG.quiet 8 _ hil rfl rfl (fun j k r h => by have := hks j k r h; omega) (Gr.refl _) hR⟩
    · obtain rfl := Option.some.inj ho
      have l0 := hd ⟨7, .data⟩ (by simp) rfl
      have f0 := hF.at (s := 10) (i := 7) (by kernel_rfl) (by simp) l0
      rw [hR.2.1 7 _ l0 rfl] at f0
      exact wp_val (.agg (nw 9 rr)) (by simp [go_sem, f0]) ⟨_, rfl, RG.quiet 9 _ hil rfl rfl (fun j k r h => by have := hks j k r h; omega) (Gr.refl _) hR⟩
    · obtain rfl := Option.some.inj ho
      exact wp_val (.pointer (some ⟨v1.heap.size, 0, none⟩)) (w' := v1.alloc (.cells (nw 18 0) 28)) (by simp [go_sem]) ⟨_, rfl, RG.alloc 10 (nw 18 0) 28 hil hl rfl rfl (fun j k r h => by have := hks j k r h; omega) hR⟩
    · obtain rfl := Option.some.inj ho
      exact wp_val (.pointer (some ⟨v1.heap.size, 0, none⟩)) (w' := v1.alloc (.cells (nw 9 0) 25)) (by simp [go_sem]) ⟨_, rfl, RG.alloc 11 (nw 9 0) 25 hil hl rfl rfl (fun j k r h => by have := hks j k r h; omega) hR⟩
    · obtain rfl := Option.some.inj ho
      have l0 := hd ⟨10, .data⟩ (by simp) rfl
      have l1 := hd ⟨8, .data⟩ (by simp) rfl
      obtain ⟨B, h4, h5⟩ := hR.2.2.2
      obtain ⟨e1, e2, e3, e4, e5⟩ := h4 10 (nw 18 0) l0 rfl
      simp only [hl] at e5
      replace e5 : blk v1 (B 10) = nw 18 0 := e5
      have f0 := hF.at (s := 5) (i := 10) (by kernel_rfl) (by simp) l0
      rw [e1] at f0
      have f1 := hF.at (s := 18) (i := 8) (by kernel_rfl) (by simp) l1
      rw [hR.2.1 8 _ l1 rfl] at f1
      exact wp_skip (w' := setBlk v1 (B 10) (nw 18 q)) (by simp [go_sem, f0, f1, e4, e5]) ⟨undef, rfl, RG.store 12 10 (nw 18 0) (nw 18 q) (B 10) hil hl rfl rfl rfl l0 rfl (by rw [nw_size]; decide) e1 (fun k r h => by have := hks k _ r h; omega) hR⟩
    · obtain rfl := Option.some.inj ho
      have l0 := hd ⟨11, .data⟩ (by simp) rfl
      have l1 := hd ⟨9, .data⟩ (by simp) rfl
      obtain ⟨B, h4, h5⟩ := hR.2.2.2
      obtain ⟨e1, e2, e3, e4, e5⟩ := h4 11 (nw 9 0) l0 rfl
      simp only [hl] at e5
      replace e5 : blk v1 (B 11) = nw 9 0 := e5
      have f0 := hF.at (s := 6) (i := 11) (by kernel_rfl) (by simp) l0
      rw [e1] at f0
      have f1 := hF.at (s := 19) (i := 9) (by kernel_rfl) (by simp) l1
      rw [hR.2.1 9 _ l1 rfl] at f1
      exact wp_skip (w' := setBlk v1 (B 11) (nw 9 rr)) (by simp [go_sem, f0, f1, e4, e5]) ⟨undef, rfl, RG.store 13 11 (nw 9 0) (nw 9 rr) (B 11) hil hl rfl rfl rfl l0 rfl (by rw [nw_size]; decide) e1 (fun k r h => by have := hks k _ r h; omega) hR⟩
  case hf =>
    intro listed vals a1 v1 hall hR hF
    have hbo : blk v1 (w.heap.size + 1) = nw 18 O := (blk_of _ _ _ (hR.1.below.block (w.heap.size + 1) (by simp [go_sem] <;> omega))).trans (by simp [go_sem])
    have phbo : Pre (w.heap.size + 1 + 1) v1.heap.size := Nat.le_trans (show w.heap.size + 1 + 1 ≤ _ from by simp [go_sem] <;> omega) hR.1.below.size
    have hbx : blk v1 (w.heap.size) = nw 18 X := (blk_of _ _ _ (hR.1.below.block (w.heap.size) (by simp [go_sem] <;> omega))).trans (by simp [go_sem])
    have phbx : Pre (w.heap.size + 1) v1.heap.size := Nat.le_trans (show w.heap.size + 1 ≤ _ from by simp [go_sem] <;> omega) hR.1.below.size
    have hbz : blk v1 (w.heap.size + 1 + 1) = nw 18 0 := (blk_of _ _ _ (hR.1.below.block (w.heap.size + 1 + 1) (by simp [go_sem] <;> omega))).trans (by simp [go_sem])
    have phbz : Pre (w.heap.size + 1 + 1 + 1) v1.heap.size := Nat.le_trans (show w.heap.size + 1 + 1 + 1 ≤ _ from by simp [go_sem] <;> omega) hR.1.below.size
    have hV := hR.2.1
    obtain ⟨B, h4, h5⟩ := hR.2.2.2
    have x0 := hV 0 _ (hall 0 (by simp)) rfl
    have x1 := hV 1 _ (hall 1 (by simp)) rfl
    have x2 := hV 2 _ (hall 2 (by simp)) rfl
    have x3 := hV 3 _ (hall 3 (by simp)) rfl
    have x4 := hV 4 _ (hall 4 (by simp)) rfl
    have x5 := hV 5 _ (hall 5 (by simp)) rfl
    have x6 := hV 6 _ (hall 6 (by simp)) rfl
    have x7 := hV 7 _ (hall 7 (by simp)) rfl
    have x8 := hV 8 _ (hall 8 (by simp)) rfl
    have x9 := hV 9 _ (hall 9 (by simp)) rfl
    obtain ⟨x10, q10, p10, z10, y10⟩ := h4 10 _ (hall 10 (by simp)) rfl
    simp only [hall 12 (by simp), if_true] at y10
    replace p10 : Pre (B 10 + 1) v1.heap.size := p10
    replace y10 : blk v1 (B 10) = nw 18 q := y10
    obtain ⟨x11, q11, p11, z11, y11⟩ := h4 11 _ (hall 11 (by simp)) rfl
    simp only [hall 13 (by simp), if_true] at y11
    replace p11 : Pre (B 11 + 1) v1.heap.size := p11
    replace y11 : blk v1 (B 11) = nw 9 rr := y11
    have hb1 := hR.1
    rw [hF.final (by kernel_rfl) hall]
    simp only [putFrom, Act.put, List.setIfInBounds_toArray, List.set_cons_zero, List.set_cons_succ, x0, x1, x2, x3, x4, x5, x6, x7, x8, x9, x10, x11]
    generalize B 10 = b10 at *
    generalize B 11 = b11 at *
    clear hV h4 h5 hR hF hall x0 x1 x2 x3 x4 x5 x6 x7 x8 x9 x10 x11
    have fz : frz v1 (w.heap.size + 1 + 1) = (0, 0) := hb1.frz0 _ (by simp [go_sem] <;> omega) (by simp [go_sem])
    have HG1 : Hid (Gr w v1) := by show Gr w v1; refine Gr.trans ?_ hb1; exact (by repeat (first | exact Gr.refl _ | apply Gr.drewN | apply Gr.drew | apply Gr.alloc | apply Gr.gro))
    clear hb1 q10 q11
    go_wp2_with fail
    refine wp_region_mix (by kernel_rfl) (by kernel_rfl) (RG _ (fun i => match i with | 0 => some (.agg (nw 18 q)) | 1 => some (.agg (nw 9 q)) | 2 => some (.pointer (some ⟨w.heap.size + 1, 9, none⟩)) | 3 => some (.agg (nw 9 tf)) | 4 => some (.agg (nw 18 T)) | _ => none) (fun i => match i with | 5 => some (nw 18 0) | _ => none) (fun i => match i with | 5 => some (6, nw 18 T) | _ => none)) (RG.start _ _ _ _ _ _) ?hs ?hf
    case hs =>
      intro listed vals a1 v2 i o hz hR hF ho hl hd
      have hks : ∀ (j k : Nat) (r : Array Value), (match j with | 5 => some (6, nw 18 T) | _ => (none : Option (Nat × Array Value))) = some (k, r) → (j = 5 ∧ k = 6) := fun j k r h => by
        split at h <;> simp_all
      have hbq : blk v2 (b10) = nw 18 q := (blk_of _ _ _ (hR.1.below.block (b10) (p10))).trans (y10)
      have hbo2 : blk v2 (w.heap.size + 1) = nw 18 O := (blk_of _ _ _ (hR.1.below.block (w.heap.size + 1) (phbo))).trans (hbo)
      have hbx2 : blk v2 (w.heap.size) = nw 18 X := (blk_of _ _ _ (hR.1.below.block (w.heap.size) (phbx))).trans (hbx)
      have hbz2 : blk v2 (w.heap.size + 1 + 1) = nw 18 0 := (blk_of _ _ _ (hR.1.below.block (w.heap.size + 1 + 1) (phbz))).trans (hbz)
      have hbr2 : blk v2 (b11) = nw 9 rr := (blk_of _ _ _ (hR.1.below.block (b11) (p11))).trans (y11)
      have hi : i < 7 := by simpa using (Array.getElem?_eq_some_iff.1 ho).1
      have hil : i < listed.size := by rw [hz]; simpa using hi
      obtain rfl | rfl | rfl | rfl | rfl | rfl | rfl : i = 0 ∨ i = 1 ∨ i = 2 ∨ i = 3 ∨ i = 4 ∨ i = 5 ∨ i = 6 := by omega
      · obtain rfl := Option.some.inj ho
        have f0 := hF.old (s := 5) (v := .pointer (some ⟨b10, 0, none⟩)) (by kernel_rfl) rfl
        exact wp_val (.agg (nw 18 q)) (by simp [go_sem, f0, hbq]) ⟨_, rfl, RG.quiet 0 _ hil rfl rfl (fun j k r h => by have := hks j k r h; omega) (Gr.refl _) hR⟩
      · obtain rfl := Option.some.inj ho
        have l0 := hd ⟨0, .data⟩ (by simp) rfl
        have f0 := hF.at (s := 20) (i := 0) (by kernel_rfl) (by simp) l0
        rw [hR.2.1 0 _ l0 rfl] at f0
        exact wp_ret (.agg (nw 9 q)) (by simp [go_sem, f0]) (HL.out _) (fun w2 hg => ⟨_, rfl, RG.quiet 1 _ hil rfl rfl (fun j k r h => by have := hks j k r h; omega) hg hR⟩)
      · obtain rfl := Option.some.inj ho
        have f0 := hF.old (s := 3) (v := .pointer (some ⟨w.heap.size + 1, 0, none⟩)) (by kernel_rfl) rfl
        exact wp_val (.pointer (some ⟨w.heap.size + 1, 9, none⟩)) (by simp [go_sem, f0]) ⟨_, rfl, RG.quiet 2 _ hil rfl rfl (fun j k r h => by have := hks j k r h; omega) (Gr.refl _) hR⟩
      · obtain rfl := Option.some.inj ho
        have l0 := hd ⟨2, .data⟩ (by simp) rfl
        have f0 := hF.at (s := 22) (i := 2) (by kernel_rfl) (by simp) l0
        rw [hR.2.1 2 _ l0 rfl] at f0
        exact wp_val (.agg (nw 9 tf)) (by simp [go_sem, f0, hbo2, HO2.out ()]) ⟨_, rfl, RG.quiet 3 _ hil rfl rfl (fun j k r h => by have := hks j k r h; omega) (Gr.refl _) hR⟩
      · obtain rfl := Option.some.inj ho
        have l0 := hd ⟨1, .data⟩ (by simp) rfl
        have f0 := hF.at (s := 21) (i := 1) (by kernel_rfl) (by simp) l0
        rw [hR.2.1 1 _ l0 rfl] at f0
        have l1 := hd ⟨3, .data⟩ (by simp) rfl
        have f1 := hF.at (s := 23) (i := 3) (by kernel_rfl) (by simp) l1
        rw [hR.2.1 3 _ l1 rfl] at f1
        exact wp_ret (.agg (nw 18 T)) (by simp [go_sem, f0, f1]) (HM.out _) (fun w2 hg => ⟨_, rfl, RG.quiet 4 _ hil rfl rfl (fun j k r h => by have := hks j k r h; omega) hg hR⟩)
      · obtain rfl := Option.some.inj ho
        exact wp_val (.pointer (some ⟨v2.heap.size, 0, none⟩)) (w' := v2.alloc (.cells (nw 18 0) 28)) (by simp [go_sem]) ⟨_, rfl, RG.alloc 5 (nw 18 0) 28 hil hl rfl rfl (fun j k r h => by have := hks j k r h; omega) hR⟩
      · obtain rfl := Option.some.inj ho
        have l0 := hd ⟨5, .data⟩ (by simp) rfl
        have l1 := hd ⟨4, .data⟩ (by simp) rfl
        obtain ⟨B, h4, h5⟩ := hR.2.2.2
        obtain ⟨e1, e2, e3, e4, e5⟩ := h4 5 (nw 18 0) l0 rfl
        simp only [hl] at e5
        replace e5 : blk v2 (B 5) = nw 18 0 := e5
        have f0 := hF.at (s := 7) (i := 5) (by kernel_rfl) (by simp) l0
        rw [e1] at f0
        have f1 := hF.at (s := 24) (i := 4) (by kernel_rfl) (by simp) l1
        rw [hR.2.1 4 _ l1 rfl] at f1
        exact wp_skip (w' := setBlk v2 (B 5) (nw 18 T)) (by simp [go_sem, f0, f1, e4, e5]) ⟨undef, rfl, RG.store 6 5 (nw 18 0) (nw 18 T) (B 5) hil hl rfl rfl rfl l0 rfl (by rw [nw_size]; decide) e1 (fun k r h => by have := hks k _ r h; omega) hR⟩
    case hf =>
      intro listed vals a1 v2 hall hR hF
      have hbq : blk v2 (b10) = nw 18 q := (blk_of _ _ _ (hR.1.below.block (b10) (p10))).trans (y10)
      have phbq : Pre (b10 + 1) v2.heap.size := Nat.le_trans (show b10 + 1 ≤ _ from p10) hR.1.below.size
      have hbo2 : blk v2 (w.heap.size + 1) = nw 18 O := (blk_of _ _ _ (hR.1.below.block (w.heap.size + 1) (phbo))).trans (hbo)
      have phbo2 : Pre (w.heap.size + 1 + 1) v2.heap.size := Nat.le_trans (show w.heap.size + 1 + 1 ≤ _ from phbo) hR.1.below.size
      have hbx2 : blk v2 (w.heap.size) = nw 18 X := (blk_of _ _ _ (hR.1.below.block (w.heap.size) (phbx))).trans (hbx)
      have phbx2 : Pre (w.heap.size + 1) v2.heap.size := Nat.le_trans (show w.heap.size + 1 ≤ _ from phbx) hR.1.below.size
      have hbz2 : blk v2 (w.heap.size + 1 + 1) = nw 18 0 := (blk_of _ _ _ (hR.1.below.block (w.heap.size + 1 + 1) (phbz))).trans (hbz)
      have phbz2 : Pre (w.heap.size + 1 + 1 + 1) v2.heap.size := Nat.le_trans (show w.heap.size + 1 + 1 + 1 ≤ _ from phbz) hR.1.below.size
      have hbr2 : blk v2 (b11) = nw 9 rr := (blk_of _ _ _ (hR.1.below.block (b11) (p11))).trans (y11)
      have phbr2 : Pre (b11 + 1) v2.heap.size := Nat.le_trans (show b11 + 1 ≤ _ from p11) hR.1.below.size
      have hV := hR.2.1
      obtain ⟨B, h4, h5⟩ := hR.2.2.2
      have x0s := hV 0 _ (hall 0 (by simp)) rfl
      have x1s := hV 1 _ (hall 1 (by simp)) rfl
      have x2s := hV 2 _ (hall 2 (by simp)) rfl
      have x3s := hV 3 _ (hall 3 (by simp)) rfl
      have x4s := hV 4 _ (hall 4 (by simp)) rfl
      obtain ⟨x5s, q5s, p5s, z5s, y5s⟩ := h4 5 _ (hall 5 (by simp)) rfl
      simp only [hall 6 (by simp), if_true] at y5s
      replace p5s : Pre (B 5 + 1) v2.heap.size := p5s
      replace y5s : blk v2 (B 5) = nw 18 T := y5s
      have hb1 := hR.1
      rw [hF.final (by kernel_rfl) hall]
      simp only [putFrom, Act.put, List.setIfInBounds_toArray, List.set_cons_zero, List.set_cons_succ, x0s, x1s, x2s, x3s, x4s, x5s]
      generalize B 5 = b5s at *
      clear hV h4 h5 hR hF hall x0s x1s x2s x3s x4s x5s
      have fz2 : frz v2 (w.heap.size + 1 + 1) = (0, 0) := hb1.frz0 _ phbz fz
      have HG2 : Hid (Gr w v2) := HG1.out.trans hb1
      clear hb1 hbq hbo2 hbo hbx fz phbo phbx phbz y10 p10 y11 p11 hbz HG1
      go_wp2_with fail
      refine wp_region_mix (by kernel_rfl) (by kernel_rfl) (RG _ (fun i => match i with | 0 => some (.pointer (some ⟨w.heap.size, 9, none⟩)) | 1 => some (.agg (nw 9 xf)) | 2 => some (.agg (nw 18 T)) | 3 => some (.agg (nw 9 T)) | 4 => some (.tuple #[.agg (nw 9 F), .bool false]) | 5 => some (.tuple #[.agg (nw 9 F), .bool false]) | 6 => some (.agg (nw 9 F)) | 7 => some (.bool false) | 10 => some (.bool false) | _ => none) (fun i => match i with | 8 => some (nw 9 0) | _ => none) (fun i => match i with | 8 => some (9, nw 9 F) | _ => none)) (RG.start _ _ _ _ _ _) ?hs ?hf
      case hs =>
        intro listed vals a1 v3 i o hz hR hF ho hl hd
        have hks : ∀ (j k : Nat) (r : Array Value), (match j with | 8 => some (9, nw 9 F) | _ => (none : Option (Nat × Array Value))) = some (k, r) → (j = 8 ∧ k = 9) := fun j k r h => by
          split at h <;> simp_all
        have hbt3 : blk v3 (b5s) = nw 18 T := (blk_of _ _ _ (hR.1.below.block (b5s) (p5s))).trans (y5s)
        have hbx3 : blk v3 (w.heap.size) = nw 18 X := (blk_of _ _ _ (hR.1.below.block (w.heap.size) (phbx2))).trans (hbx2)
        have hbz3 : blk v3 (w.heap.size + 1 + 1) = nw 18 0 := (blk_of _ _ _ (hR.1.below.block (w.heap.size + 1 + 1) (phbz2))).trans (hbz2)
        have hbr3 : blk v3 (b11) = nw 9 rr := (blk_of _ _ _ (hR.1.below.block (b11) (phbr2))).trans (hbr2)
        have hi : i < 11 := by simpa using (Array.getElem?_eq_some_iff.1 ho).1
        have hil : i < listed.size := by rw [hz]; simpa using hi
        obtain rfl | rfl | rfl | rfl | rfl | rfl | rfl | rfl | rfl | rfl | rfl : i = 0 ∨ i = 1 ∨ i = 2 ∨ i = 3 ∨ i = 4 ∨ i = 5 ∨ i = 6 ∨ i = 7 ∨ i = 8 ∨ i = 9 ∨ i = 10 := by omega
        · obtain rfl := Option.some.inj ho
          have f0 := hF.old (s := 2) (v := .pointer (some ⟨w.heap.size, 0, none⟩)) (by kernel_rfl) rfl
          exact wp_val (.pointer (some ⟨w.heap.size, 9, none⟩)) (by simp [go_sem, f0]) ⟨_, rfl, RG.quiet 0 _ hil rfl rfl (fun j k r h => by have := hks j k r h; omega) (Gr.refl _) hR⟩
        · obtain rfl := Option.some.inj ho
          have l0 := hd ⟨0, .data⟩ (by simp) rfl
          have f0 := hF.at (s := 26) (i := 0) (by kernel_rfl) (by simp) l0
          rw [hR.2.1 0 _ l0 rfl] at f0
          exact wp_val (.agg (nw 9 xf)) (by simp [go_sem, f0, hbx3, HX2.out ()]) ⟨_, rfl, RG.quiet 1 _ hil rfl rfl (fun j k r h => by have := hks j k r h; omega) (Gr.refl _) hR⟩
        · obtain rfl := Option.some.inj ho
          have f0 := hF.old (s := 7) (v := .pointer (some ⟨b5s, 0, none⟩)) (by kernel_rfl) rfl
          exact wp_val (.agg (nw 18 T)) (by simp [go_sem, f0, hbt3]) ⟨_, rfl, RG.quiet 2 _ hil rfl rfl (fun j k r h => by have := hks j k r h; omega) (Gr.refl _) hR⟩
        · obtain rfl := Option.some.inj ho
          have l0 := hd ⟨2, .data⟩ (by simp) rfl
          have f0 := hF.at (s := 28) (i := 2) (by kernel_rfl) (by simp) l0
          rw [hR.2.1 2 _ l0 rfl] at f0
          exact wp_ret (.agg (nw 9 T)) (by simp [go_sem, f0]) (HL2.out _) (fun w2 hg => ⟨_, rfl, RG.quiet 3 _ hil rfl rfl (fun j k r h => by have := hks j k r h; omega) hg hR⟩)
        · obtain rfl := Option.some.inj ho
          have l0 := hd ⟨1, .data⟩ (by simp) rfl
          have f0 := hF.at (s := 27) (i := 1) (by kernel_rfl) (by simp) l0
          rw [hR.2.1 1 _ l0 rfl] at f0
          have l1 := hd ⟨3, .data⟩ (by simp) rfl
          have f1 := hF.at (s := 29) (i := 3) (by kernel_rfl) (by simp) l1
          rw [hR.2.1 3 _ l1 rfl] at f1
          exact wp_ret (.tuple #[.agg (nw 9 F), .bool false]) (by simp [go_sem, f0, f1]) (HA.out _) (fun w2 hg => ⟨_, rfl, RG.quiet 4 _ hil rfl rfl (fun j k r h => by have := hks j k r h; omega) hg hR⟩)
        · obtain rfl := Option.some.inj ho
          have l0 := hd ⟨4, .data⟩ (by simp) rfl
          have f0 := hF.at (s := 30) (i := 4) (by kernel_rfl) (by simp) l0
          rw [hR.2.1 4 _ l0 rfl] at f0
          exact wp_val (.tuple #[.agg (nw 9 F), .bool false]) (by simp [go_sem, f0]) ⟨_, rfl, RG.quiet 5 _ hil rfl rfl (fun j k r h => by have := hks j k r h; omega) (Gr.refl _) hR⟩
        · obtain rfl := Option.some.inj ho
          have l0 := hd ⟨5, .data⟩ (by simp) rfl
          have f0 := hF.at (s := 25) (i := 5) (by kernel_rfl) (by simp) l0
          rw [hR.2.1 5 _ l0 rfl] at f0
          exact wp_val (.agg (nw 9 F)) (by simp [go_sem, f0]) ⟨_, rfl, RG.quiet 6 _ hil rfl rfl (fun j k r h => by have := hks j k r h; omega) (Gr.refl _) hR⟩
        · obtain rfl := Option.some.inj ho
          have l0 := hd ⟨5, .data⟩ (by simp) rfl
          have f0 := hF.at (s := 25) (i := 5) (by kernel_rfl) (by simp) l0
          rw [hR.2.1 5 _ l0 rfl] at f0
          exact wp_val (.bool false) (by simp [go_sem, f0]) ⟨_, rfl, RG.quiet 7 _ hil rfl rfl (fun j k r h => by have := hks j k r h; omega) (Gr.refl _) hR⟩
        · obtain rfl := Option.some.inj ho
          exact wp_val (.pointer (some ⟨v3.heap.size, 0, none⟩)) (w' := v3.alloc (.cells (nw 9 0) 25)) (by simp [go_sem]) ⟨_, rfl, RG.alloc 8 (nw 9 0) 25 hil hl rfl rfl (fun j k r h => by have := hks j k r h; omega) hR⟩
        · obtain rfl := Option.some.inj ho
          have l0 := hd ⟨8, .data⟩ (by simp) rfl
          have l1 := hd ⟨6, .data⟩ (by simp) rfl
          obtain ⟨B, h4, h5⟩ := hR.2.2.2
          obtain ⟨e1, e2, e3, e4, e5⟩ := h4 8 (nw 9 0) l0 rfl
          simp only [hl] at e5
          replace e5 : blk v3 (B 8) = nw 9 0 := e5
          have f0 := hF.at (s := 8) (i := 8) (by kernel_rfl) (by simp) l0
          rw [e1] at f0
          have f1 := hF.at (s := 31) (i := 6) (by kernel_rfl) (by simp) l1
          rw [hR.2.1 6 _ l1 rfl] at f1
          exact wp_skip (w' := setBlk v3 (B 8) (nw 9 F)) (by simp [go_sem, f0, f1, e4, e5]) ⟨undef, rfl, RG.store 9 8 (nw 9 0) (nw 9 F) (B 8) hil hl rfl rfl rfl l0 rfl (by rw [nw_size]; decide) e1 (fun k r h => by have := hks k _ r h; omega) hR⟩
        · obtain rfl := Option.some.inj ho
          have l0 := hd ⟨7, .data⟩ (by simp) rfl
          have f0 := hF.at (s := 32) (i := 7) (by kernel_rfl) (by simp) l0
          rw [hR.2.1 7 _ l0 rfl] at f0
          exact wp_val (.bool false) (by simp [go_sem, f0]) ⟨_, rfl, RG.quiet 10 _ hil rfl rfl (fun j k r h => by have := hks j k r h; omega) (Gr.refl _) hR⟩
      case hf =>
        intro listed vals a1 v3 hall hR hF
        have hbt3 : blk v3 (b5s) = nw 18 T := (blk_of _ _ _ (hR.1.below.block (b5s) (p5s))).trans (y5s)
        have phbt3 : Pre (b5s + 1) v3.heap.size := Nat.le_trans (show b5s + 1 ≤ _ from p5s) hR.1.below.size
        have hbx3 : blk v3 (w.heap.size) = nw 18 X := (blk_of _ _ _ (hR.1.below.block (w.heap.size) (phbx2))).trans (hbx2)
        have phbx3 : Pre (w.heap.size + 1) v3.heap.size := Nat.le_trans (show w.heap.size + 1 ≤ _ from phbx2) hR.1.below.size
        have hbz3 : blk v3 (w.heap.size + 1 + 1) = nw 18 0 := (blk_of _ _ _ (hR.1.below.block (w.heap.size + 1 + 1) (phbz2))).trans (hbz2)
        have phbz3 : Pre (w.heap.size + 1 + 1 + 1) v3.heap.size := Nat.le_trans (show w.heap.size + 1 + 1 + 1 ≤ _ from phbz2) hR.1.below.size
        have hbr3 : blk v3 (b11) = nw 9 rr := (blk_of _ _ _ (hR.1.below.block (b11) (phbr2))).trans (hbr2)
        have phbr3 : Pre (b11 + 1) v3.heap.size := Nat.le_trans (show b11 + 1 ≤ _ from phbr2) hR.1.below.size
        have hV := hR.2.1
        obtain ⟨B, h4, h5⟩ := hR.2.2.2
        have x0r := hV 0 _ (hall 0 (by simp)) rfl
        have x1r := hV 1 _ (hall 1 (by simp)) rfl
        have x2r := hV 2 _ (hall 2 (by simp)) rfl
        have x3r := hV 3 _ (hall 3 (by simp)) rfl
        have x4r := hV 4 _ (hall 4 (by simp)) rfl
        have x5r := hV 5 _ (hall 5 (by simp)) rfl
        have x6r := hV 6 _ (hall 6 (by simp)) rfl
        have x7r := hV 7 _ (hall 7 (by simp)) rfl
        have x10r := hV 10 _ (hall 10 (by simp)) rfl
        obtain ⟨x8r, q8r, p8r, z8r, y8r⟩ := h4 8 _ (hall 8 (by simp)) rfl
        simp only [hall 9 (by simp), if_true] at y8r
        replace p8r : Pre (B 8 + 1) v3.heap.size := p8r
        replace y8r : blk v3 (B 8) = nw 9 F := y8r
        have hb1 := hR.1
        rw [hF.final (by kernel_rfl) hall]
        simp only [putFrom, Act.put, List.setIfInBounds_toArray, List.set_cons_zero, List.set_cons_succ, x0r, x1r, x2r, x3r, x4r, x5r, x6r, x7r, x10r, x8r]
        generalize B 8 = b8r at *
        clear hV h4 h5 hR hF hall x0r x1r x2r x3r x4r x5r x6r x7r x10r x8r
        have fz3 : frz v3 (w.heap.size + 1 + 1) = (0, 0) := hb1.frz0 _ phbz2 fz2
        have HG3 : Hid (Gr w v3) := HG2.out.trans hb1
        clear hb1 hbt3 hbx3
        go_wp2_with fail
        refine bodyPost_ret (res_one Try.results62 (rd_mv (x := Z) (by rfl) ?_)) rfl ⟨rfl, ?_⟩
        · simp [go_sem, *]
        · repeat (first | exact HG3.out | apply Gr.drewN | apply Gr.drew | apply Gr.alloc | apply Gr.gro | (refine gr_setNew ?_ (by omega)))

end Go.Proofs.Ytbafjcbbiiipfaa
