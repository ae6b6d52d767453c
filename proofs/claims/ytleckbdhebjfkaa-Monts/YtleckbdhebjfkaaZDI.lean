/-
  divide's multiple.lessTimes: what it hands back where no factor goes beyond.
-/
/-
  divide.euclid: what it hands back.
-/
/-
  divide.Inverse: what it hands back.
-/
import Derived.Test.YtleckbdhebjfkaaZDM
import Derived.Test.YtleckbdhebjfkaaZAdd
namespace Go.Proofs.Ytleckbdhebjfkaa
open Go.RowKit
attribute [local go_sem ↓] loadNat_is loadArr_is loadWide_is loadArrW_is storeNat_is storeWide_is
attribute [local go_sem] loadNat loadArr loadWide loadArrW storeNat storeWide idxArr fold9 fold18 nw_size nw_elem pre_self pre_1 pre_2 pre_3 pre_4 pre_5 pre_6 pre_7 pre_8 pre_9 pre_10 pre_11 pre_12 pre_13 pre_14 pre_15 pre_16 pre_17 pre_18 pre_19 pre_20 pre_21 pre_22 pre_23 pre_24 pre_25 pre_26 pre_27 pre_28 pre_29 pre_30 pre_31 pre_32 pre_33 pre_34 pre_35 pre_36 pre_37 pre_38 pre_39 pre_40 gro_size gro_drew gro_drewN drew_gro drewN_gro gro_gro blk_gro frz_gro blk_drew frz_drew blk_drewN frz_drewN blk_alloc_at frz_alloc_at blk_alloc frz_alloc cell_gro frozen_gro cell_alloc_pre frozen_alloc_pre setCell_drewN alloc_drewN setBlk_drew setBlk_drewN setBlk_alloc_at setBlk_alloc setBlk_gro setCell_gro setCell_alloc_pre size_setBlk size_setCell
attribute [local go_sem ↓] loadDv_is load19_is storeDv_is store19_is copy_is
attribute [local go_sem] idx18 loadDv load19 storeDv store19 dv_size dv_9 dv_10 dv_e9 dv_e10 dv_elem fold11 fold19 setCell_in cell_in frozen_in frz_setBlk blk_setBlk setBlk_setBlk copy_run cpA_nw ones_nw

attribute [local go_sem ↓] loadMv_is storeMv_is buildMv_is
attribute [local go_sem] loadMv storeMv loadLo loadHi ext_lo ext_hi buildMv2 buildMv1

attribute [local go_sem ↓] Go.wp_at_zero Go.wp_at_succ
attribute [local go_sem] blk_other
set_option maxRecDepth 100000 in
set_option maxHeartbeats 2400000 in
theorem less_any (xv xf ov tf : Nat) (hx : xv < M) (hxf : xf < M) (h0 : 0 < ov) (ho : ov < M) (htf : tf < M) (hF : xf + xv / ov * tf < M) (w : World) :
    Calls Try.prog 67 #[.agg (nw 18 (mvN xv xf)), .agg (nw 18 (mvN ov tf))] w fun e w' => e = .returned (.agg (nw 18 (mvN (xv % ov) (xf + xv / ov * tf)))) ∧ Gr w w' := by
  obtain ⟨D, n, u, hd, hD⟩ := divisorOf_any ov h0 ho
  have HD : Hid (∀ w, Calls Try.prog 46 #[.agg (nw 9 ov)] w fun e w' => e = .returned (.agg (dv D (n + 1) u)) ∧ Gr w w') := hD
  have HW : Hid (∀ w, Calls Try.prog 48 #[.agg (nw 9 xv)] w fun e w' => e = .returned (.agg (nw 18 xv)) ∧ Gr w w') := fun w => widen_any xv hx w
  have hs := fun w => splitD xv ov D n u hd (lt18 xv hx) w
  have hl := fun w => lowHalf_any (xv / ov) w
  have hqM := div_lt xv ov hx
  rw [Nat.mod_eq_of_lt hqM] at hl
  have hrM : xv % ov < M := Nat.lt_trans (Nat.mod_lt _ h0) ho
  have hm := fun w => mul_any (xv / ov) tf hqM htf w
  have hTM : xv / ov * tf < M := by omega
  have hl2 := fun w => lowHalf_any (xv / ov * tf) w
  rw [Nat.mod_eq_of_lt hTM] at hl2
  have ha := fun w => add_any xf (xv / ov * tf) hxf hTM w
  rw [Nat.mod_eq_of_lt hF, decide_eq_false (by omega)] at ha
  obtain ⟨q, hq⟩ : ∃ q, xv / ov = q := ⟨_, rfl⟩
  obtain ⟨rr, hr⟩ : ∃ r, xv % ov = r := ⟨_, rfl⟩
  rw [hq, hr] at hs ⊢
  rw [hr] at hrM
  rw [hq] at hl hm hl2 ha
  obtain ⟨T, hT⟩ : ∃ T, q * tf = T := ⟨_, rfl⟩
  rw [hT] at hm hl2 ha ⊢
  obtain ⟨F, hF'⟩ : ∃ F, xf + T = F := ⟨_, rfl⟩
  rw [hF'] at ha ⊢
  have HS : Hid (∀ w, Calls Try.prog 47 #[.agg (dv D (n + 1) u), .agg (nw 18 xv)] w fun e w' => e = .returned (.tuple #[.agg (nw 18 q), .agg (nw 9 rr)]) ∧ Gr w w') := hs
  have HL : Hid (∀ w, Calls Try.prog 49 #[.agg (nw 18 q)] w fun e w' => e = .returned (.agg (nw 9 q)) ∧ Gr w w') := hl
  have HM : Hid (∀ w, Calls Try.prog 54 #[.agg (nw 9 q), .agg (nw 9 tf)] w fun e w' => e = .returned (.agg (nw 18 T)) ∧ Gr w w') := hm
  have HL2 : Hid (∀ w, Calls Try.prog 49 #[.agg (nw 18 T)] w fun e w' => e = .returned (.agg (nw 9 T)) ∧ Gr w w') := hl2
  have HA : Hid (∀ w, Calls Try.prog 75 #[.agg (nw 9 xf), .agg (nw 9 T)] w fun e w' => e = .returned (.tuple #[.agg (nw 9 F), .bool false]) ∧ Gr w w') := ha
  obtain ⟨X, hX⟩ : ∃ X, mvN xv xf = X := ⟨_, rfl⟩
  obtain ⟨O, hO⟩ : ∃ O, mvN ov tf = O := ⟨_, rfl⟩
  have x1 := mv_lo xv xf hx
  have x2 := mv_hi xv xf hx
  have o1 := mv_lo ov tf ho
  have o2 := mv_hi ov tf ho
  rw [hX] at x1 x2 ⊢
  rw [hO] at o1 o2 ⊢
  have HX1 : Hid (Unit → nw 9 X = nw 9 xv) := fun _ => x1
  have HX2 : Hid (Unit → nw 9 (X / pw 9) = nw 9 xf) := fun _ => x2
  have HO1 : Hid (Unit → nw 9 O = nw 9 ov) := fun _ => o1
  have HO2 : Hid (Unit → nw 9 (O / pw 9) = nw 9 tf) := fun _ => o2
  have hap := app_mv rr F hrM
  obtain ⟨Z, hZ⟩ : ∃ Z, mvN rr F = Z := ⟨_, rfl⟩
  rw [hZ] at hap ⊢
  clear hx hxf h0 ho htf hF hd hD hs hl hqM hrM hm hTM hl2 ha hq hr hT hF' hX hO x1 x2 o1 o2 hZ
  go_enter Try.func67, Try.ntmps67
  go_wp2_with fail
  refine wp_region_mix (by kernel_rfl) (by kernel_rfl) (RG _ (fun i => match i with | 0 => some (.pointer (some ⟨w.heap.size + 1, 0, none⟩)) | 1 => some (.agg (nw 9 ov)) | 2 => some (.agg (dv D (n + 1) u)) | 3 => some (.pointer (some ⟨w.heap.size, 0, none⟩)) | 4 => some (.agg (nw 9 xv)) | 5 => some (.agg (nw 18 xv)) | 6 => some (.tuple #[.agg (nw 18 q), .agg (nw 9 rr)]) | 7 => some (.tuple #[.agg (nw 18 q), .agg (nw 9 rr)]) | 8 => some (.agg (nw 18 q)) | 9 => some (.agg (nw 9 rr)) | _ => none) (fun i => match i with | 10 => some (nw 18 0) | 11 => some (nw 9 0) | _ => none) (fun i => match i with | 10 => some (12, nw 18 q) | 11 => some (13, nw 9 rr) | _ => none)) (RG.start _ _ _ _ _ _) ?hs ?hf
  case hs =>
    intro listed vals a1 v1 i o hz hR hF ho hl hd
    have hks : ∀ (j k : Nat) (r : Array Value), (match j with | 10 => some (12, nw 18 q) | 11 => some (13, nw 9 rr) | _ => (none : Option (Nat × Array Value))) = some (k, r) → (j = 10 ∧ k = 12) ∨ (j = 11 ∧ k = 13) := fun j k r h => by
      split at h <;> simp_all
    have hbo : blk v1 (w.heap.size + 1) = nw 18 O := (blk_of _ _ _ (hR.1.below.block (w.heap.size + 1) (by simp [go_sem] <;> omega))).trans (by simp [go_sem])
    have hbx : blk v1 (w.heap.size) = nw 18 X := (blk_of _ _ _ (hR.1.below.block (w.heap.size) (by simp [go_sem] <;> omega))).trans (by simp [go_sem])
    have hbz : blk v1 (w.heap.size + 1 + 1) = nw 18 0 := (blk_of _ _ _ (hR.1.below.block (w.heap.size + 1 + 1) (by simp [go_sem] <;> omega))).trans (by simp [go_sem])
    have hi : i < 14 := by simpa using (Array.getElem?_eq_some_iff.1 ho).1
    have hil : i < listed.size := by rw [hz]; simpa using hi
    obtain rfl | rfl | rfl | rfl | rfl | rfl | rfl | rfl | rfl | rfl | rfl | rfl | rfl | rfl : i = 0 ∨ i = 1 ∨ i = 2 ∨ i = 3 ∨ i = 4 ∨ i = 5 ∨ i = 6 ∨ i = 7 ∨ i = 8 ∨ i = 9 ∨ i = 10 ∨ i = 11 ∨ i = 12 ∨ i = 13 := by omega
    · obtain rfl := Option.some.inj ho
      have f0 := hF.old (s := 3) (v := .pointer (some ⟨w.heap.size + 1, 0, none⟩)) (by kernel_rfl) rfl
      exact wp_val (.pointer (some ⟨w.heap.size + 1, 0, none⟩)) (by simp [go_sem, f0]) ⟨_, rfl, RG.quiet 0 _ hil rfl rfl (fun j k r h => by have := hks j k r h; omega) (Gr.refl _) hR⟩
    · obtain rfl := Option.some.inj ho
      have l0 := hd ⟨0, .data⟩ (by simp) rfl
      have f0 := hF.at (s := 11) (i := 0) (by kernel_rfl) (by simp) l0
      rw [hR.2.1 0 _ l0 rfl] at f0
      exact wp_val (.agg (nw 9 ov)) (by simp [go_sem, f0, hbo, HO1.out ()]) ⟨_, rfl, RG.quiet 1 _ hil rfl rfl (fun j k r h => by have := hks j k r h; omega) (Gr.refl _) hR⟩
    · obtain rfl := Option.some.inj ho
      have l0 := hd ⟨1, .data⟩ (by simp) rfl
      have f0 := hF.at (s := 12) (i := 1) (by kernel_rfl) (by simp) l0
      rw [hR.2.1 1 _ l0 rfl] at f0
      exact wp_ret (.agg (dv D (n + 1) u)) (by simp [go_sem, f0]) (HD.out _) (fun w2 hg => ⟨_, rfl, RG.quiet 2 _ hil rfl rfl (fun j k r h => by have := hks j k r h; omega) hg hR⟩)
    · obtain rfl := Option.some.inj ho
      have f0 := hF.old (s := 2) (v := .pointer (some ⟨w.heap.size, 0, none⟩)) (by kernel_rfl) rfl
      exact wp_val (.pointer (some ⟨w.heap.size, 0, none⟩)) (by simp [go_sem, f0]) ⟨_, rfl, RG.quiet 3 _ hil rfl rfl (fun j k r h => by have := hks j k r h; omega) (Gr.refl _) hR⟩
    · obtain rfl := Option.some.inj ho
      have l0 := hd ⟨3, .data⟩ (by simp) rfl
      have f0 := hF.at (s := 14) (i := 3) (by kernel_rfl) (by simp) l0
      rw [hR.2.1 3 _ l0 rfl] at f0
      exact wp_val (.agg (nw 9 xv)) (by simp [go_sem, f0, hbx, HX1.out ()]) ⟨_, rfl, RG.quiet 4 _ hil rfl rfl (fun j k r h => by have := hks j k r h; omega) (Gr.refl _) hR⟩
    · obtain rfl := Option.some.inj ho
      have l0 := hd ⟨4, .data⟩ (by simp) rfl
      have f0 := hF.at (s := 15) (i := 4) (by kernel_rfl) (by simp) l0
      rw [hR.2.1 4 _ l0 rfl] at f0
      exact wp_ret (.agg (nw 18 xv)) (by simp [go_sem, f0]) (HW.out _) (fun w2 hg => ⟨_, rfl, RG.quiet 5 _ hil rfl rfl (fun j k r h => by have := hks j k r h; omega) hg hR⟩)
    · obtain rfl := Option.some.inj ho
      have l0 := hd ⟨2, .data⟩ (by simp) rfl
      have f0 := hF.at (s := 13) (i := 2) (by kernel_rfl) (by simp) l0
      rw [hR.2.1 2 _ l0 rfl] at f0
      have l1 := hd ⟨5, .data⟩ (by simp) rfl
      have f1 := hF.at (s := 16) (i := 5) (by kernel_rfl) (by simp) l1
      rw [hR.2.1 5 _ l1 rfl] at f1
      exact wp_ret (.tuple #[.agg (nw 18 q), .agg (nw 9 rr)]) (by simp [go_sem, f0, f1]) (HS.out _) (fun w2 hg => ⟨_, rfl, RG.quiet 6 _ hil rfl rfl (fun j k r h => by have := hks j k r h; omega) hg hR⟩)
    · obtain rfl := Option.some.inj ho
      have l0 := hd ⟨6, .data⟩ (by simp) rfl
      have f0 := hF.at (s := 17) (i := 6) (by kernel_rfl) (by simp) l0
      rw [hR.2.1 6 _ l0 rfl] at f0
      exact wp_val (.tuple #[.agg (nw 18 q), .agg (nw 9 rr)]) (by simp [go_sem, f0]) ⟨_, rfl, RG.quiet 7 _ hil rfl rfl (fun j k r h => by have := hks j k r h; omega) (Gr.refl _) hR⟩
    · obtain rfl := Option.some.inj ho
      have l0 := hd ⟨7, .data⟩ (by simp) rfl
      have f0 := hF.at (s := 10) (i := 7) (by kernel_rfl) (by simp) l0
      rw [hR.2.1 7 _ l0 rfl] at f0
      exact wp_val (.agg (nw 18 q)) (by simp [go_sem, f0]) ⟨_, rfl, RG.quiet 8 _ hil rfl rfl (fun j k r h => by have := hks j k r h; omega) (Gr.refl _) hR⟩
    · obtain rfl := Option.some.inj ho
      have l0 := hd ⟨7, .data⟩ (by simp) rfl
      have f0 := hF.at (s := 10) (i := 7) (by kernel_rfl) (by simp) l0
      rw [hR.2.1 7 _ l0 rfl] at f0
      exact wp_val (.agg (nw 9 rr)) (by simp [go_sem, f0]) ⟨_, rfl, RG.quiet 9 _ hil rfl rfl (fun j k r h => by have := hks j k r h; omega) (Gr.refl _) hR⟩
    · obtain rfl := Option.some.inj ho
      exact wp_val (.pointer (some ⟨v1.heap.size, 0, none⟩)) (w' := v1.alloc (.cells (nw 18 0) 77)) (by simp [go_sem]) ⟨_, rfl, RG.alloc 10 (nw 18 0) 77 hil hl rfl rfl (fun j k r h => by have := hks j k r h; omega) hR⟩
    · obtain rfl := Option.some.inj ho
      exact wp_val (.pointer (some ⟨v1.heap.size, 0, none⟩)) (w' := v1.alloc (.cells (nw 9 0) 25)) (by simp [go_sem]) ⟨_, rfl, RG.alloc 11 (nw 9 0) 25 hil hl rfl rfl (fun j k r h => by have := hks j k r h; omega) hR⟩
    · obtain rfl := Option.some.inj ho
      have l0 := hd ⟨10, .data⟩ (by simp) rfl
      have l1 := hd ⟨8, .data⟩ (by simp) rfl
      obtain ⟨B, h4, h5⟩ := hR.2.2.2
      obtain ⟨e1, e2, e3, e4, e5⟩ := h4 10 (nw 18 0) l0 rfl
      simp only [hl] at e5
      replace e5 : blk v1 (B 10) = nw 18 0 := e5
      have f0 := hF.at (s := 5) (i := 10) (by kernel_rfl) (by simp) l0
      rw [e1] at f0
      have f1 := hF.at (s := 18) (i := 8) (by kernel_rfl) (by simp) l1
      rw [hR.2.1 8 _ l1 rfl] at f1
      exact wp_skip (w' := setBlk v1 (B 10) (nw 18 q)) (by simp [go_sem, f0, f1, e4, e5]) ⟨undef, rfl, RG.store 12 10 (nw 18 0) (nw 18 q) (B 10) hil hl rfl rfl rfl l0 rfl (by rw [nw_size]; decide) e1 (fun k r h => by have := hks k _ r h; omega) hR⟩
    · obtain rfl := Option.some.inj ho
      have l0 := hd ⟨11, .data⟩ (by simp) rfl
      have l1 := hd ⟨9, .data⟩ (by simp) rfl
      obtain ⟨B, h4, h5⟩ := hR.2.2.2
      obtain ⟨e1, e2, e3, e4, e5⟩ := h4 11 (nw 9 0) l0 rfl
      simp only [hl] at e5
      replace e5 : blk v1 (B 11) = nw 9 0 := e5
      have f0 := hF.at (s := 6) (i := 11) (by kernel_rfl) (by simp) l0
      rw [e1] at f0
      have f1 := hF.at (s := 19) (i := 9) (by kernel_rfl) (by simp) l1
      rw [hR.2.1 9 _ l1 rfl] at f1
      exact wp_skip (w' := setBlk v1 (B 11) (nw 9 rr)) (by simp [go_sem, f0, f1, e4, e5]) ⟨undef, rfl, RG.store 13 11 (nw 9 0) (nw 9 rr) (B 11) hil hl rfl rfl rfl l0 rfl (by rw [nw_size]; decide) e1 (fun k r h => by have := hks k _ r h; omega) hR⟩
  case hf =>
    intro listed vals a1 v1 hall hR hF
    have hbo : blk v1 (w.heap.size + 1) = nw 18 O := (blk_of _ _ _ (hR.1.below.block (w.heap.size + 1) (by simp [go_sem] <;> omega))).trans (by simp [go_sem])
    have phbo : Pre (w.heap.size + 1 + 1) v1.heap.size := Nat.le_trans (show w.heap.size + 1 + 1 ≤ _ from by simp [go_sem] <;> omega) hR.1.below.size
    have hbx : blk v1 (w.heap.size) = nw 18 X := (blk_of _ _ _ (hR.1.below.block (w.heap.size) (by simp [go_sem] <;> omega))).trans (by simp [go_sem])
    have phbx : Pre (w.heap.size + 1) v1.heap.size := Nat.le_trans (show w.heap.size + 1 ≤ _ from by simp [go_sem] <;> omega) hR.1.below.size
    have hbz : blk v1 (w.heap.size + 1 + 1) = nw 18 0 := (blk_of _ _ _ (hR.1.below.block (w.heap.size + 1 + 1) (by simp [go_sem] <;> omega))).trans (by simp [go_sem])
    have phbz : Pre (w.heap.size + 1 + 1 + 1) v1.heap.size := Nat.le_trans (show w.heap.size + 1 + 1 + 1 ≤ _ from by simp [go_sem] <;> omega) hR.1.below.size
    have hV := hR.2.1
    obtain ⟨B, h4, h5⟩ := hR.2.2.2
    have x0 := hV 0 _ (hall 0 (by simp)) rfl
    have x1 := hV 1 _ (hall 1 (by simp)) rfl
    have x2 := hV 2 _ (hall 2 (by simp)) rfl
    have x3 := hV 3 _ (hall 3 (by simp)) rfl
    have x4 := hV 4 _ (hall 4 (by simp)) rfl
    have x5 := hV 5 _ (hall 5 (by simp)) rfl
    have x6 := hV 6 _ (hall 6 (by simp)) rfl
    have x7 := hV 7 _ (hall 7 (by simp)) rfl
    have x8 := hV 8 _ (hall 8 (by simp)) rfl
    have x9 := hV 9 _ (hall 9 (by simp)) rfl
    obtain ⟨x10, q10, p10, z10, y10⟩ := h4 10 _ (hall 10 (by simp)) rfl
    simp only [hall 12 (by simp), if_true] at y10
    replace p10 : Pre (B 10 + 1) v1.heap.size := p10
    replace y10 : blk v1 (B 10) = nw 18 q := y10
    obtain ⟨x11, q11, p11, z11, y11⟩ := h4 11 _ (hall 11 (by simp)) rfl
    simp only [hall 13 (by simp), if_true] at y11
    replace p11 : Pre (B 11 + 1) v1.heap.size := p11
    replace y11 : blk v1 (B 11) = nw 9 rr := y11
    have hb1 := hR.1
    rw [hF.final (by kernel_rfl) hall]
    simp only [putFrom, Act.put, List.setIfInBounds_toArray, List.set_cons_zero, List.set_cons_succ, x0, x1, x2, x3, x4, x5, x6, x7, x8, x9, x10, x11]
    generalize B 10 = b10 at *
    generalize B 11 = b11 at *
    clear hV h4 h5 hR hF hall x0 x1 x2 x3 x4 x5 x6 x7 x8 x9 x10 x11
    have fz : frz v1 (w.heap.size + 1 + 1) = (0, 0) := hb1.frz0 _ (by simp [go_sem] <;> omega) (by simp [go_sem])
    have HG1 : Hid (Gr w v1) := by show Gr w v1; refine Gr.trans ?_ hb1; exact (by repeat (first | exact Gr.refl _ | apply Gr.drewN | apply Gr.drew | apply Gr.alloc | apply Gr.gro))
    clear hb1 q10 q11
    go_wp2_with fail
    refine wp_region_mix (by kernel_rfl) (by kernel_rfl) (RG _ (fun i => match i with | 0 => some (.agg (nw 18 q)) | 1 => some (.agg (nw 9 q)) | 2 => some (.pointer (some ⟨w.heap.size + 1, 9, none⟩)) | 3 => some (.agg (nw 9 tf)) | 4 => some (.agg (nw 18 T)) | _ => none) (fun i => match i with | 5 => some (nw 18 0) | _ => none) (fun i => match i with | 5 => some (6, nw 18 T) | _ => none)) (RG.start _ _ _ _ _ _) ?hs ?hf
    case hs =>
      intro listed vals a1 v2 i o hz hR hF ho hl hd
      have hks : ∀ (j k : Nat) (r : Array Value), (match j with | 5 => some (6, nw 18 T) | _ => (none : Option (Nat × Array Value))) = some (k, r) → (j = 5 ∧ k = 6) := fun j k r h => by
        split at h <;> simp_all
      have hbq : blk v2 (b10) = nw 18 q := (blk_of _ _ _ (hR.1.below.block (b10) (p10))).trans (y10)
      have hbo2 : blk v2 (w.heap.size + 1) = nw 18 O := (blk_of _ _ _ (hR.1.below.block (w.heap.size + 1) (phbo))).trans (hbo)
      have hbx2 : blk v2 (w.heap.size) = nw 18 X := (blk_of _ _ _ (hR.1.below.block (w.heap.size) (phbx))).trans (hbx)
      have hbz2 : blk v2 (w.heap.size + 1 + 1) = nw 18 0 := (blk_of _ _ _ (hR.1.below.block (w.heap.size + 1 + 1) (phbz))).trans (hbz)
      have hbr2 : blk v2 (b11) = nw 9 rr := (blk_of _ _ _ (hR.1.below.block (b11) (p11))).trans (y11)
      have hi : i < 7 := by simpa using (Array.getElem?_eq_some_iff.1 ho).1
      have hil : i < listed.size := by rw [hz]; simpa using hi
      obtain rfl | rfl | rfl | rfl | rfl | rfl | rfl : i = 0 ∨ i = 1 ∨ i = 2 ∨ i = 3 ∨ i = 4 ∨ i = 5 ∨ i = 6 := by omega
      · obtain rfl := Option.some.inj ho
        have f0 := hF.old (s := 5) (v := .pointer (some ⟨b10, 0, none⟩)) (by kernel_rfl) rfl
        exact wp_val (.agg (nw 18 q)) (by simp [go_sem, f0, hbq]) ⟨_, rfl, RG.quiet 0 _ hil rfl rfl (fun j k r h => by have := hks j k r h; omega) (Gr.refl _) hR⟩
      · obtain rfl := Option.some.inj ho
        have l0 := hd ⟨0, .data⟩ (by simp) rfl
        have f0 := hF.at (s := 20) (i := 0) (by kernel_rfl) (by simp) l0
        rw [hR.2.1 0 _ l0 rfl] at f0
        exact wp_ret (.agg (nw 9 q)) (by simp [go_sem, f0]) (HL.out _) (fun w2 hg => ⟨_, rfl, RG.quiet 1 _ hil rfl rfl (fun j k r h => by have := hks j k r h; omega) hg hR⟩)
      · obtain rfl := Option.some.inj ho
        have f0 := hF.old (s := 3) (v := .pointer (some ⟨w.heap.size + 1, 0, none⟩)) (by kernel_rfl) rfl
        exact wp_val (.pointer (some ⟨w.heap.size + 1, 9, none⟩)) (by simp [go_sem, f0]) ⟨_, rfl, RG.quiet 2 _ hil rfl rfl (fun j k r h => by have := hks j k r h; omega) (Gr.refl _) hR⟩
      · obtain rfl := Option.some.inj ho
        have l0 := hd ⟨2, .data⟩ (by simp) rfl
        have f0 := hF.at (s := 22) (i := 2) (by kernel_rfl) (by simp) l0
        rw [hR.2.1 2 _ l0 rfl] at f0
        exact wp_val (.agg (nw 9 tf)) (by simp [go_sem, f0, hbo2, HO2.out ()]) ⟨_, rfl, RG.quiet 3 _ hil rfl rfl (fun j k r h => by have := hks j k r h; omega) (Gr.refl _) hR⟩
      · obtain rfl := Option.some.inj ho
        have l0 := hd ⟨1, .data⟩ (by simp) rfl
        have f0 := hF.at (s := 21) (i := 1) (by kernel_rfl) (by simp) l0
        rw [hR.2.1 1 _ l0 rfl] at f0
        have l1 := hd ⟨3, .data⟩ (by simp) rfl
        have f1 := hF.at (s := 23) (i := 3) (by kernel_rfl) (by simp) l1
        rw [hR.2.1 3 _ l1 rfl] at f1
        exact wp_ret (.agg (nw 18 T)) (by simp [go_sem, f0, f1]) (HM.out _) (fun w2 hg => ⟨_, rfl, RG.quiet 4 _ hil rfl rfl (fun j k r h => by have := hks j k r h; omega) hg hR⟩)
      · obtain rfl := Option.some.inj ho
        exact wp_val (.pointer (some ⟨v2.heap.size, 0, none⟩)) (w' := v2.alloc (.cells (nw 18 0) 77)) (by simp [go_sem]) ⟨_, rfl, RG.alloc 5 (nw 18 0) 77 hil hl rfl rfl (fun j k r h => by have := hks j k r h; omega) hR⟩
      · obtain rfl := Option.some.inj ho
        have l0 := hd ⟨5, .data⟩ (by simp) rfl
        have l1 := hd ⟨4, .data⟩ (by simp) rfl
        obtain ⟨B, h4, h5⟩ := hR.2.2.2
        obtain ⟨e1, e2, e3, e4, e5⟩ := h4 5 (nw 18 0) l0 rfl
        simp only [hl] at e5
        replace e5 : blk v2 (B 5) = nw 18 0 := e5
        have f0 := hF.at (s := 7) (i := 5) (by kernel_rfl) (by simp) l0
        rw [e1] at f0
        have f1 := hF.at (s := 24) (i := 4) (by kernel_rfl) (by simp) l1
        rw [hR.2.1 4 _ l1 rfl] at f1
        exact wp_skip (w' := setBlk v2 (B 5) (nw 18 T)) (by simp [go_sem, f0, f1, e4, e5]) ⟨undef, rfl, RG.store 6 5 (nw 18 0) (nw 18 T) (B 5) hil hl rfl rfl rfl l0 rfl (by rw [nw_size]; decide) e1 (fun k r h => by have := hks k _ r h; omega) hR⟩
    case hf =>
      intro listed vals a1 v2 hall hR hF
      have hbq : blk v2 (b10) = nw 18 q := (blk_of _ _ _ (hR.1.below.block (b10) (p10))).trans (y10)
      have phbq : Pre (b10 + 1) v2.heap.size := Nat.le_trans (show b10 + 1 ≤ _ from p10) hR.1.below.size
      have hbo2 : blk v2 (w.heap.size + 1) = nw 18 O := (blk_of _ _ _ (hR.1.below.block (w.heap.size + 1) (phbo))).trans (hbo)
      have phbo2 : Pre (w.heap.size + 1 + 1) v2.heap.size := Nat.le_trans (show w.heap.size + 1 + 1 ≤ _ from phbo) hR.1.below.size
      have hbx2 : blk v2 (w.heap.size) = nw 18 X := (blk_of _ _ _ (hR.1.below.block (w.heap.size) (phbx))).trans (hbx)
      have phbx2 : Pre (w.heap.size + 1) v2.heap.size := Nat.le_trans (show w.heap.size + 1 ≤ _ from phbx) hR.1.below.size
      have hbz2 : blk v2 (w.heap.size + 1 + 1) = nw 18 0 := (blk_of _ _ _ (hR.1.below.block (w.heap.size + 1 + 1) (phbz))).trans (hbz)
      have phbz2 : Pre (w.heap.size + 1 + 1 + 1) v2.heap.size := Nat.le_trans (show w.heap.size + 1 + 1 + 1 ≤ _ from phbz) hR.1.below.size
      have hbr2 : blk v2 (b11) = nw 9 rr := (blk_of _ _ _ (hR.1.below.block (b11) (p11))).trans (y11)
      have phbr2 : Pre (b11 + 1) v2.heap.size := Nat.le_trans (show b11 + 1 ≤ _ from p11) hR.1.below.size
      have hV := hR.2.1
      obtain ⟨B, h4, h5⟩ := hR.2.2.2
      have x0s := hV 0 _ (hall 0 (by simp)) rfl
      have x1s := hV 1 _ (hall 1 (by simp)) rfl
      have x2s := hV 2 _ (hall 2 (by simp)) rfl
      have x3s := hV 3 _ (hall 3 (by simp)) rfl
      have x4s := hV 4 _ (hall 4 (by simp)) rfl
      obtain ⟨x5s, q5s, p5s, z5s, y5s⟩ := h4 5 _ (hall 5 (by simp)) rfl
      simp only [hall 6 (by simp), if_true] at y5s
      replace p5s : Pre (B 5 + 1) v2.heap.size := p5s
      replace y5s : blk v2 (B 5) = nw 18 T := y5s
      have hb1 := hR.1
      rw [hF.final (by kernel_rfl) hall]
      simp only [putFrom, Act.put, List.setIfInBounds_toArray, List.set_cons_zero, List.set_cons_succ, x0s, x1s, x2s, x3s, x4s, x5s]
      generalize B 5 = b5s at *
      clear hV h4 h5 hR hF hall x0s x1s x2s x3s x4s x5s
      have fz2 : frz v2 (w.heap.size + 1 + 1) = (0, 0) := hb1.frz0 _ phbz fz
      have HG2 : Hid (Gr w v2) := HG1.out.trans hb1
      clear hb1 hbq hbo2 hbo hbx fz phbo phbx phbz y10 p10 y11 p11 hbz HG1
      go_wp2_with fail
      refine wp_region_mix (by kernel_rfl) (by kernel_rfl) (RG _ (fun i => match i with | 0 => some (.pointer (some ⟨w.heap.size, 9, none⟩)) | 1 => some (.agg (nw 9 xf)) | 2 => some (.agg (nw 18 T)) | 3 => some (.agg (nw 9 T)) | 4 => some (.tuple #[.agg (nw 9 F), .bool false]) | 5 => some (.tuple #[.agg (nw 9 F), .bool false]) | 6 => some (.agg (nw 9 F)) | 7 => some (.bool false) | 10 => some (.bool false) | _ => none) (fun i => match i with | 8 => some (nw 9 0) | _ => none) (fun i => match i with | 8 => some (9, nw 9 F) | _ => none)) (RG.start _ _ _ _ _ _) ?hs ?hf
      case hs =>
        intro listed vals a1 v3 i o hz hR hF ho hl hd
        have hks : ∀ (j k : Nat) (r : Array Value), (match j with | 8 => some (9, nw 9 F) | _ => (none : Option (Nat × Array Value))) = some (k, r) → (j = 8 ∧ k = 9) := fun j k r h => by
          split at h <;> simp_all
        have hbt3 : blk v3 (b5s) = nw 18 T := (blk_of _ _ _ (hR.1.below.block (b5s) (p5s))).trans (y5s)
        have hbx3 : blk v3 (w.heap.size) = nw 18 X := (blk_of _ _ _ (hR.1.below.block (w.heap.size) (phbx2))).trans (hbx2)
        have hbz3 : blk v3 (w.heap.size + 1 + 1) = nw 18 0 := (blk_of _ _ _ (hR.1.below.block (w.heap.size + 1 + 1) (phbz2))).trans (hbz2)
        have hbr3 : blk v3 (b11) = nw 9 rr := (blk_of _ _ _ (hR.1.below.block (b11) (phbr2))).trans (hbr2)
        have hi : i < 11 := by simpa using (Array.getElem?_eq_some_iff.1 ho).1
        have hil : i < listed.size := by rw [hz]; simpa using hi
        obtain rfl | rfl | rfl | rfl | rfl | rfl | rfl | rfl | rfl | rfl | rfl : i = 0 ∨ i = 1 ∨ i = 2 ∨ i = 3 ∨ i = 4 ∨ i = 5 ∨ i = 6 ∨ i = 7 ∨ i = 8 ∨ i = 9 ∨ i = 10 := by omega
        · obtain rfl := Option.some.inj ho
          have f0 := hF.old (s := 2) (v := .pointer (some ⟨w.heap.size, 0, none⟩)) (by kernel_rfl) rfl
          exact wp_val (.pointer (some ⟨w.heap.size, 9, none⟩)) (by simp [go_sem, f0]) ⟨_, rfl, RG.quiet 0 _ hil rfl rfl (fun j k r h => by have := hks j k r h; omega) (Gr.refl _) hR⟩
        · obtain rfl := Option.some.inj ho
          have l0 := hd ⟨0, .data⟩ (by simp) rfl
          have f0 := hF.at (s := 26) (i := 0) (by kernel_rfl) (by simp) l0
          rw [hR.2.1 0 _ l0 rfl] at f0
          exact wp_val (.agg (nw 9 xf)) (by simp [go_sem, f0, hbx3, HX2.out ()]) ⟨_, rfl, RG.quiet 1 _ hil rfl rfl (fun j k r h => by have := hks j k r h; omega) (Gr.refl _) hR⟩
        · obtain rfl := Option.some.inj ho
          have f0 := hF.old (s := 7) (v := .pointer (some ⟨b5s, 0, none⟩)) (by kernel_rfl) rfl
          exact wp_val (.agg (nw 18 T)) (by simp [go_sem, f0, hbt3]) ⟨_, rfl, RG.quiet 2 _ hil rfl rfl (fun j k r h => by have := hks j k r h; omega) (Gr.refl _) hR⟩
        · obtain rfl := Option.some.inj ho
          have l0 := hd ⟨2, .data⟩ (by simp) rfl
          have f0 := hF.at (s := 28) (i := 2) (by kernel_rfl) (by simp) l0
          rw [hR.2.1 2 _ l0 rfl] at f0
          exact wp_ret (.agg (nw 9 T)) (by simp [go_sem, f0]) (HL2.out _) (fun w2 hg => ⟨_, rfl, RG.quiet 3 _ hil rfl rfl (fun j k r h => by have := hks j k r h; omega) hg hR⟩)
        · obtain rfl := Option.some.inj ho
          have l0 := hd ⟨1, .data⟩ (by simp) rfl
          have f0 := hF.at (s := 27) (i := 1) (by kernel_rfl) (by simp) l0
          rw [hR.2.1 1 _ l0 rfl] at f0
          have l1 := hd ⟨3, .data⟩ (by simp) rfl
          have f1 := hF.at (s := 29) (i := 3) (by kernel_rfl) (by simp) l1
          rw [hR.2.1 3 _ l1 rfl] at f1
          exact wp_ret (.tuple #[.agg (nw 9 F), .bool false]) (by simp [go_sem, f0, f1]) (HA.out _) (fun w2 hg => ⟨_, rfl, RG.quiet 4 _ hil rfl rfl (fun j k r h => by have := hks j k r h; omega) hg hR⟩)
        · obtain rfl := Option.some.inj ho
          have l0 := hd ⟨4, .data⟩ (by simp) rfl
          have f0 := hF.at (s := 30) (i := 4) (by kernel_rfl) (by simp) l0
          rw [hR.2.1 4 _ l0 rfl] at f0
          exact wp_val (.tuple #[.agg (nw 9 F), .bool false]) (by simp [go_sem, f0]) ⟨_, rfl, RG.quiet 5 _ hil rfl rfl (fun j k r h => by have := hks j k r h; omega) (Gr.refl _) hR⟩
        · obtain rfl := Option.some.inj ho
          have l0 := hd ⟨5, .data⟩ (by simp) rfl
          have f0 := hF.at (s := 25) (i := 5) (by kernel_rfl) (by simp) l0
          rw [hR.2.1 5 _ l0 rfl] at f0
          exact wp_val (.agg (nw 9 F)) (by simp [go_sem, f0]) ⟨_, rfl, RG.quiet 6 _ hil rfl rfl (fun j k r h => by have := hks j k r h; omega) (Gr.refl _) hR⟩
        · obtain rfl := Option.some.inj ho
          have l0 := hd ⟨5, .data⟩ (by simp) rfl
          have f0 := hF.at (s := 25) (i := 5) (by kernel_rfl) (by simp) l0
          rw [hR.2.1 5 _ l0 rfl] at f0
          exact wp_val (.bool false) (by simp [go_sem, f0]) ⟨_, rfl, RG.quiet 7 _ hil rfl rfl (fun j k r h => by have := hks j k r h; omega) (Gr.refl _) hR⟩
        · obtain rfl := Option.some.inj ho
          exact wp_val (.pointer (some ⟨v3.heap.size, 0, none⟩)) (w' := v3.alloc (.cells (nw 9 0) 25)) (by simp [go_sem]) ⟨_, rfl, RG.alloc 8 (nw 9 0) 25 hil hl rfl rfl (fun j k r h => by have := hks j k r h; omega) hR⟩
        · obtain rfl := Option.some.inj ho
          have l0 := hd ⟨8, .data⟩ (by simp) rfl
          have l1 := hd ⟨6, .data⟩ (by simp) rfl
          obtain ⟨B, h4, h5⟩ := hR.2.2.2
          obtain ⟨e1, e2, e3, e4, e5⟩ := h4 8 (nw 9 0) l0 rfl
          simp only [hl] at e5
          replace e5 : blk v3 (B 8) = nw 9 0 := e5
          have f0 := hF.at (s := 8) (i := 8) (by kernel_rfl) (by simp) l0
          rw [e1] at f0
          have f1 := hF.at (s := 31) (i := 6) (by kernel_rfl) (by simp) l1
          rw [hR.2.1 6 _ l1 rfl] at f1
          exact wp_skip (w' := setBlk v3 (B 8) (nw 9 F)) (by simp [go_sem, f0, f1, e4, e5]) ⟨undef, rfl, RG.store 9 8 (nw 9 0) (nw 9 F) (B 8) hil hl rfl rfl rfl l0 rfl (by rw [nw_size]; decide) e1 (fun k r h => by have := hks k _ r h; omega) hR⟩
        · obtain rfl := Option.some.inj ho
          have l0 := hd ⟨7, .data⟩ (by simp) rfl
          have f0 := hF.at (s := 32) (i := 7) (by kernel_rfl) (by simp) l0
          rw [hR.2.1 7 _ l0 rfl] at f0
          exact wp_val (.bool false) (by simp [go_sem, f0]) ⟨_, rfl, RG.quiet 10 _ hil rfl rfl (fun j k r h => by have := hks j k r h; omega) (Gr.refl _) hR⟩
      case hf =>
        intro listed vals a1 v3 hall hR hF
        have hbt3 : blk v3 (b5s) = nw 18 T := (blk_of _ _ _ (hR.1.below.block (b5s) (p5s))).trans (y5s)
        have phbt3 : Pre (b5s + 1) v3.heap.size := Nat.le_trans (show b5s + 1 ≤ _ from p5s) hR.1.below.size
        have hbx3 : blk v3 (w.heap.size) = nw 18 X := (blk_of _ _ _ (hR.1.below.block (w.heap.size) (phbx2))).trans (hbx2)
        have phbx3 : Pre (w.heap.size + 1) v3.heap.size := Nat.le_trans (show w.heap.size + 1 ≤ _ from phbx2) hR.1.below.size
        have hbz3 : blk v3 (w.heap.size + 1 + 1) = nw 18 0 := (blk_of _ _ _ (hR.1.below.block (w.heap.size + 1 + 1) (phbz2))).trans (hbz2)
        have phbz3 : Pre (w.heap.size + 1 + 1 + 1) v3.heap.size := Nat.le_trans (show w.heap.size + 1 + 1 + 1 ≤ _ from phbz2) hR.1.below.size
        have hbr3 : blk v3 (b11) = nw 9 rr := (blk_of _ _ _ (hR.1.below.block (b11) (phbr2))).trans (hbr2)
        have phbr3 : Pre (b11 + 1) v3.heap.size := Nat.le_trans (show b11 + 1 ≤ _ from phbr2) hR.1.below.size
        have hV := hR.2.1
        obtain ⟨B, h4, h5⟩ := hR.2.2.2
        have x0r := hV 0 _ (hall 0 (by simp)) rfl
        have x1r := hV 1 _ (hall 1 (by simp)) rfl
        have x2r := hV 2 _ (hall 2 (by simp)) rfl
        have x3r := hV 3 _ (hall 3 (by simp)) rfl
        have x4r := hV 4 _ (hall 4 (by simp)) rfl
        have x5r := hV 5 _ (hall 5 (by simp)) rfl
        have x6r := hV 6 _ (hall 6 (by simp)) rfl
        have x7r := hV 7 _ (hall 7 (by simp)) rfl
        have x10r := hV 10 _ (hall 10 (by simp)) rfl
        obtain ⟨x8r, q8r, p8r, z8r, y8r⟩ := h4 8 _ (hall 8 (by simp)) rfl
        simp only [hall 9 (by simp), if_true] at y8r
        replace p8r : Pre (B 8 + 1) v3.heap.size := p8r
        replace y8r : blk v3 (B 8) = nw 9 F := y8r
        have hb1 := hR.1
        rw [hF.final (by kernel_rfl) hall]
        simp only [putFrom, Act.put, List.setIfInBounds_toArray, List.set_cons_zero, List.set_cons_succ, x0r, x1r, x2r, x3r, x4r, x5r, x6r, x7r, x10r, x8r]
        generalize B 8 = b8r at *
        clear hV h4 h5 hR hF hall x0r x1r x2r x3r x4r x5r x6r x7r x10r x8r
        have fz3 : frz v3 (w.heap.size + 1 + 1) = (0, 0) := hb1.frz0 _ phbz2 fz2
        have HG3 : Hid (Gr w v3) := HG2.out.trans hb1
        clear hb1 hbt3 hbx3
        go_wp2_with fail
        refine bodyPost_ret (res_one Try.results67 (rd_mv (x := Z) (by rfl) ?_)) rfl ⟨rfl, ?_⟩
        · simp [go_sem, *]
        · repeat (first | exact HG3.out | apply Gr.drewN | apply Gr.drew | apply Gr.alloc | apply Gr.gro | (refine gr_setNew ?_ (by omega)))

end Go.Proofs.Ytleckbdhebjfkaa
namespace Go.Proofs.Ytleckbdhebjfkaa
open Go.RowKit
attribute [local go_sem ↓] loadNat_is loadArr_is loadWide_is loadArrW_is storeNat_is storeWide_is
attribute [local go_sem] loadNat loadArr loadWide loadArrW storeNat storeWide idxArr fold9 fold18 nw_size nw_elem pre_self pre_1 pre_2 pre_3 pre_4 pre_5 pre_6 pre_7 pre_8 pre_9 pre_10 pre_11 pre_12 pre_13 pre_14 pre_15 pre_16 pre_17 pre_18 pre_19 pre_20 pre_21 pre_22 pre_23 pre_24 pre_25 pre_26 pre_27 pre_28 pre_29 pre_30 pre_31 pre_32 pre_33 pre_34 pre_35 pre_36 pre_37 pre_38 pre_39 pre_40 gro_size gro_drew gro_drewN drew_gro drewN_gro gro_gro blk_gro frz_gro blk_drew frz_drew blk_drewN frz_drewN blk_alloc_at frz_alloc_at blk_alloc frz_alloc cell_gro frozen_gro cell_alloc_pre frozen_alloc_pre setCell_drewN alloc_drewN setBlk_drew setBlk_drewN setBlk_alloc_at setBlk_alloc setBlk_gro setCell_gro setCell_alloc_pre size_setBlk size_setCell
attribute [local go_sem ↓] loadDv_is load19_is storeDv_is store19_is copy_is
attribute [local go_sem] idx18 loadDv load19 storeDv store19 dv_size dv_9 dv_10 dv_e9 dv_e10 dv_elem fold11 fold19 setCell_in cell_in frozen_in frz_setBlk blk_setBlk setBlk_setBlk copy_run cpA_nw ones_nw

attribute [local go_sem ↓] loadMv_is storeMv_is buildMv_is
attribute [local go_sem] loadMv storeMv loadLo loadHi ext_lo ext_hi buildMv2 buildMv1

attribute [local go_sem ↓] Go.wp_at_zero Go.wp_at_succ
attribute [local go_sem] blk_other

/-- The number that a row's first words make. -/
def vB (c : Array Value) : Nat → Nat
  | 0 => 0
  | n + 1 => vB c n + (intOf (c.getD n undef)).toNat * pw n
theorem vB_nw (N X : Nat) : ∀ n, n ≤ N → vB (nw N X) n = X % pw n
  | 0, _ => by rw [vB, pw_zero, Nat.mod_one]
  | n + 1, h => by
    rw [vB, vB_nw N X n (by omega), mod_succ]
    have e : (nw N X).getD n undef = .int .u64 ((wd X n : Nat) : Int) := by
      have := nw_get N X n (by omega)
      rw [Array.getD_eq_getD_getElem?, this]
      rfl
    rw [e]
    simp [intOf]
def mB (w : World) (b : Nat) : Nat := vB (blk w b) 9
theorem mB_mv (w : World) (b a f : Nat) (ha : a < M) (h : blk w b = nw 18 (mvN a f)) : mB w b = a := by
  unfold mB
  rw [h, vB_nw 18 _ 9 (by decide)]
  show (a + f * M) % M = a
  rw [Nat.add_mul_mod_self_right, Nat.mod_eq_of_lt ha]
/-- What the loop of euclid keeps: the last one and this one, each in its block. -/
structure EW (w v : World) (L T b : Nat) : Prop where
  g : Gr w v
  h2 : blk v (w.heap.size + 1 + 1) = nw 9 0
  f2 : frz v (w.heap.size + 1 + 1) = (0, 0)
  p2 : Pre (w.heap.size + 1 + 1 + 1) v.heap.size
  h3 : blk v (w.heap.size + 1 + 1 + 1) = nw 9 0
  f3 : frz v (w.heap.size + 1 + 1 + 1) = (0, 0)
  p3 : Pre (w.heap.size + 1 + 1 + 1 + 1) v.heap.size
  h4 : blk v (w.heap.size + 1 + 1 + 1 + 1) = nw 18 L
  f4 : frz v (w.heap.size + 1 + 1 + 1 + 1) = (0, 0)
  p4 : Pre (w.heap.size + 1 + 1 + 1 + 1 + 1) v.heap.size
  h8 : blk v b = nw 18 T
  f8 : frz v b = (0, 0)
  p8 : Pre (b + 1) v.heap.size
  q8 : w.heap.size + 1 + 1 + 1 + 1 + 1 ≤ b
theorem EW.gr {w v v' : World} {L T b : Nat} (h : EW w v L T b) (k : Gr v v') : EW w v' L T b := by
  have hs := k.below.size
  have pr : ∀ {x}, Pre x v.heap.size → Pre x v'.heap.size := fun h => Nat.le_trans h hs
  exact ⟨h.g.trans k, by rw [k.blk _ h.p2]; exact h.h2, by rw [k.frz _ h.p2]; exact h.f2, pr h.p2, by rw [k.blk _ h.p3]; exact h.h3, by rw [k.frz _ h.p3]; exact h.f3, pr h.p3,
    by rw [k.blk _ h.p4]; exact h.h4, by rw [k.frz _ h.p4]; exact h.f4, pr h.p4, by rw [k.blk _ h.p8]; exact h.h8, by rw [k.frz _ h.p8]; exact h.f8, pr h.p8, h.q8⟩
theorem EW.set4 {w v : World} {L T b : Nat} (h : EW w v L T b) (X : Nat) : EW w (setBlk v (w.heap.size + 1 + 1 + 1 + 1) (nw 18 X)) X T b := by
  have q := h.q8
  have pr : ∀ {x}, Pre x v.heap.size → Pre x (setBlk v (w.heap.size + 1 + 1 + 1 + 1) (nw 18 X)).heap.size := fun h => by rw [size_setBlk]; exact h
  exact ⟨gr_setNew h.g (by omega), by rw [blk_other _ _ _ _ (by omega)]; exact h.h2, by rw [frz_setBlk]; exact h.f2, pr h.p2, by rw [blk_other _ _ _ _ (by omega)]; exact h.h3, by rw [frz_setBlk]; exact h.f3, pr h.p3,
    blk_setBlk _ _ _ (by rw [h.h4, nw_size]; decide), by rw [frz_setBlk]; exact h.f4, pr h.p4, by rw [blk_other _ _ _ _ (by omega)]; exact h.h8, by rw [frz_setBlk]; exact h.f8, pr h.p8, h.q8⟩
theorem EW.set8 {w v : World} {L T b : Nat} (h : EW w v L T b) (X : Nat) : EW w (setBlk v b (nw 18 X)) L X b := by
  have q := h.q8
  have pr : ∀ {x}, Pre x v.heap.size → Pre x (setBlk v b (nw 18 X)).heap.size := fun h => by rw [size_setBlk]; exact h
  exact ⟨gr_setNew h.g (by omega), by rw [blk_other _ _ _ _ (by omega)]; exact h.h2, by rw [frz_setBlk]; exact h.f2, pr h.p2, by rw [blk_other _ _ _ _ (by omega)]; exact h.h3, by rw [frz_setBlk]; exact h.f3, pr h.p3,
    by rw [blk_other _ _ _ _ (by omega)]; exact h.h4, by rw [frz_setBlk]; exact h.f4, pr h.p4, blk_setBlk _ _ _ (by rw [h.h8, nw_size]; decide), by rw [frz_setBlk]; exact h.f8, pr h.p8, h.q8⟩
set_option maxRecDepth 100000 in
set_option maxHeartbeats 4000000 in
theorem euclid_any (a m : Nat) (hm : m < M) (ham : a < m) (w : World) :
    Calls Try.prog 50 #[.agg (nw 9 a), .agg (nw 9 m)] w fun e w' => e = .returned (.tuple #[.agg (nw 9 (eu m 0 a 1 true).1), .agg (nw 9 (eu m 0 a 1 true).2.1), .bool (eu m 0 a 1 true).2.2]) ∧ Gr w w' := by
  have HO : Hid (∀ w, Calls Try.prog 33 #[.int .i64 1] w fun e w' => e = .returned (.agg (nw 9 1)) ∧ Gr w w') := fun w => small_any 1 (by decide) w
  have haM : a < M := Nat.lt_trans ham hm
  have ap0 := app_mv m 0 hm
  have ap1 := app_mv a 1 haM
  obtain ⟨M0, hM0⟩ : ∃ X, mvN m 0 = X := ⟨_, rfl⟩
  obtain ⟨A1, hA1⟩ : ∃ X, mvN a 1 = X := ⟨_, rfl⟩
  rw [hM0] at ap0
  rw [hA1] at ap1
  have HA1 : Hid (Unit → nw 9 a ++ nw 9 1 = nw 18 A1) := fun _ => ap1
  have HE0 : Hid (Unit → M0 = mvN m 0 ∧ A1 = mvN a 1) := fun _ => ⟨hM0.symm, hA1.symm⟩
  have HI0 : Hid (EI a m m 0 a 1 true) := EI.start a m ham
  have HmM : Hid (Unit → m < M) := fun _ => hm
  obtain ⟨E, hE⟩ : ∃ E, eu m 0 a 1 true = E := ⟨_, rfl⟩
  rw [hE]
  have HE : Hid (Unit → eu m 0 a 1 true = E) := fun _ => hE
  clear ap1 hM0 hA1 haM hm ham hE
  go_enter Try.func50, Try.ntmps50
  go_wp2_with fail
  refine wp_region_mix (by kernel_rfl) (by kernel_rfl) (RG _ (fun i => match i with | 0 => some (.agg (nw 9 a)) | 1 => some (.agg (nw 9 1)) | 2 => some (.agg (nw 18 A1)) | _ => none) (fun i => match i with | 3 => some (nw 18 0) | _ => none) (fun i => match i with | 3 => some (4, nw 18 A1) | _ => none)) (RG.start _ _ _ _ _ _) ?hs ?hf
  case hs =>
    intro listed vals a1 v1 i o hz hR hF ho hl hd
    have hks : ∀ (j k : Nat) (r : Array Value), (match j with | 3 => some (4, nw 18 A1) | _ => (none : Option (Nat × Array Value))) = some (k, r) → (j = 3 ∧ k = 4) := fun j k r h => by
      split at h <;> simp_all
    have hba : blk v1 (w.heap.size) = nw 9 a := (blk_of _ _ _ (hR.1.below.block (w.heap.size) (by simp [go_sem] <;> omega))).trans (by simp [go_sem])
    have hb2 : blk v1 (w.heap.size + 1 + 1) = nw 9 0 := (blk_of _ _ _ (hR.1.below.block (w.heap.size + 1 + 1) (by simp [go_sem] <;> omega))).trans (by simp [go_sem])
    have hb3 : blk v1 (w.heap.size + 1 + 1 + 1) = nw 9 0 := (blk_of _ _ _ (hR.1.below.block (w.heap.size + 1 + 1 + 1) (by simp [go_sem] <;> omega))).trans (by simp [go_sem])
    have hb4 : blk v1 (w.heap.size + 1 + 1 + 1 + 1) = nw 18 M0 := (blk_of _ _ _ (hR.1.below.block (w.heap.size + 1 + 1 + 1 + 1) (by simp [go_sem] <;> omega))).trans (by simp [go_sem])
    have hi : i < 5 := by simpa using (Array.getElem?_eq_some_iff.1 ho).1
    have hil : i < listed.size := by rw [hz]; simpa using hi
    obtain rfl | rfl | rfl | rfl | rfl : i = 0 ∨ i = 1 ∨ i = 2 ∨ i = 3 ∨ i = 4 := by omega
    · obtain rfl := Option.some.inj ho
      have f0 := hF.old (s := 2) (v := .pointer (some ⟨w.heap.size, 0, none⟩)) (by kernel_rfl) rfl
      exact wp_val (.agg (nw 9 a)) (by simp [go_sem, f0, hba]) ⟨_, rfl, RG.quiet 0 _ hil rfl rfl (fun j k r h => by have := hks j k r h; omega) (Gr.refl _) hR⟩
    · obtain rfl := Option.some.inj ho
      exact wp_ret (.agg (nw 9 1)) (by simp [go_sem]) (HO.out _) (fun w2 hg => ⟨_, rfl, RG.quiet 1 _ hil rfl rfl (fun j k r h => by have := hks j k r h; omega) hg hR⟩)
    · obtain rfl := Option.some.inj ho
      have l0 := hd ⟨0, .data⟩ (by simp) rfl
      have f0 := hF.at (s := 12) (i := 0) (by kernel_rfl) (by simp) l0
      rw [hR.2.1 0 _ l0 rfl] at f0
      have l1 := hd ⟨1, .data⟩ (by simp) rfl
      have f1 := hF.at (s := 13) (i := 1) (by kernel_rfl) (by simp) l1
      rw [hR.2.1 1 _ l1 rfl] at f1
      exact wp_val (.agg (nw 18 A1)) (by simp [go_sem, f0, f1, HA1.out ()]) ⟨_, rfl, RG.quiet 2 _ hil rfl rfl (fun j k r h => by have := hks j k r h; omega) (Gr.refl _) hR⟩
    · obtain rfl := Option.some.inj ho
      exact wp_val (.pointer (some ⟨v1.heap.size, 0, none⟩)) (w' := v1.alloc (.cells (nw 18 0) 102)) (by simp [go_sem]) ⟨_, rfl, RG.alloc 3 (nw 18 0) 102 hil hl rfl rfl (fun j k r h => by have := hks j k r h; omega) hR⟩
    · obtain rfl := Option.some.inj ho
      have l0 := hd ⟨3, .data⟩ (by simp) rfl
      have l1 := hd ⟨2, .data⟩ (by simp) rfl
      obtain ⟨B, h4, h5⟩ := hR.2.2.2
      obtain ⟨e1, e2, e3, e4, e5⟩ := h4 3 (nw 18 0) l0 rfl
      simp only [hl] at e5
      replace e5 : blk v1 (B 3) = nw 18 0 := e5
      have f0 := hF.at (s := 8) (i := 3) (by kernel_rfl) (by simp) l0
      rw [e1] at f0
      have f1 := hF.at (s := 14) (i := 2) (by kernel_rfl) (by simp) l1
      rw [hR.2.1 2 _ l1 rfl] at f1
      exact wp_skip (w' := setBlk v1 (B 3) (nw 18 A1)) (by simp [go_sem, f0, f1, e4, e5]) ⟨undef, rfl, RG.store 4 3 (nw 18 0) (nw 18 A1) (B 3) hil hl rfl rfl rfl l0 rfl (by rw [nw_size]; decide) e1 (fun k r h => by have := hks k _ r h; omega) hR⟩
  case hf =>
    intro listed vals a1 v1 hall hR hF
    have hba : blk v1 (w.heap.size) = nw 9 a := (blk_of _ _ _ (hR.1.below.block (w.heap.size) (by simp [go_sem] <;> omega))).trans (by simp [go_sem])
    have phba : Pre (w.heap.size + 1) v1.heap.size := Nat.le_trans (show w.heap.size + 1 ≤ _ from by simp [go_sem] <;> omega) hR.1.below.size
    have hb2 : blk v1 (w.heap.size + 1 + 1) = nw 9 0 := (blk_of _ _ _ (hR.1.below.block (w.heap.size + 1 + 1) (by simp [go_sem] <;> omega))).trans (by simp [go_sem])
    have phb2 : Pre (w.heap.size + 1 + 1 + 1) v1.heap.size := Nat.le_trans (show w.heap.size + 1 + 1 + 1 ≤ _ from by simp [go_sem] <;> omega) hR.1.below.size
    have hb3 : blk v1 (w.heap.size + 1 + 1 + 1) = nw 9 0 := (blk_of _ _ _ (hR.1.below.block (w.heap.size + 1 + 1 + 1) (by simp [go_sem] <;> omega))).trans (by simp [go_sem])
    have phb3 : Pre (w.heap.size + 1 + 1 + 1 + 1) v1.heap.size := Nat.le_trans (show w.heap.size + 1 + 1 + 1 + 1 ≤ _ from by simp [go_sem] <;> omega) hR.1.below.size
    have hb4 : blk v1 (w.heap.size + 1 + 1 + 1 + 1) = nw 18 M0 := (blk_of _ _ _ (hR.1.below.block (w.heap.size + 1 + 1 + 1 + 1) (by simp [go_sem] <;> omega))).trans (by simp [go_sem])
    have phb4 : Pre (w.heap.size + 1 + 1 + 1 + 1 + 1) v1.heap.size := Nat.le_trans (show w.heap.size + 1 + 1 + 1 + 1 + 1 ≤ _ from by simp [go_sem] <;> omega) hR.1.below.size
    have hV := hR.2.1
    obtain ⟨B, h4, h5⟩ := hR.2.2.2
    have x0 := hV 0 _ (hall 0 (by simp)) rfl
    have x1 := hV 1 _ (hall 1 (by simp)) rfl
    have x2 := hV 2 _ (hall 2 (by simp)) rfl
    obtain ⟨x3, q3, p3, z3, y3⟩ := h4 3 _ (hall 3 (by simp)) rfl
    simp only [hall 4 (by simp), if_true] at y3
    replace p3 : Pre (B 3 + 1) v1.heap.size := p3
    replace y3 : blk v1 (B 3) = nw 18 A1 := y3
    have hb1 := hR.1
    rw [hF.final (by kernel_rfl) hall]
    simp only [putFrom, Act.put, List.setIfInBounds_toArray, List.set_cons_zero, List.set_cons_succ, x0, x1, x2, x3]
    generalize B 3 = b3 at *
    clear hV h4 h5 hR hF hall x0 x1 x2 x3
    have hw : EW w v1 M0 A1 b3 := by
      refine ⟨Gr.trans ?_ hb1, hb2, hb1.frz0 _ (by simp [go_sem] <;> omega) (by simp [go_sem]), phb2, hb3, hb1.frz0 _ (by simp [go_sem] <;> omega) (by simp [go_sem]), phb3, hb4, hb1.frz0 _ (by simp [go_sem] <;> omega) (by simp [go_sem]), phb4, y3, z3, p3, ?_⟩
      · exact (by repeat (first | exact Gr.refl _ | apply Gr.drewN | apply Gr.drew | apply Gr.alloc | apply Gr.gro))
      · have h := q3; simp [go_sem] at h; omega
    have HW0 : Hid (EW w v1 M0 A1 b3) := hw
    clear hba phba hb2 phb2 hb3 phb3 hb4 phb4 p3 y3 z3 q3 hb1 hw ap0 HA1 HO
    go_wp2_with fail
    go_loopw [9] (fun β wr => ∃ (lv lf tv tf : Nat) (δ : Bool), β = .bool δ ∧ Hid (EI a m lv lf tv tf δ ∧ lv ≤ m ∧ eu lv lf tv tf δ = E) ∧ Hid (EW w wr (mvN lv lf) (mvN tv tf) b3)) (fun _ wr => mB wr b3)
    case atStart =>
      have h := HW0.out
      rw [(HE0.out ()).1, (HE0.out ()).2] at h
      exact ⟨m, 0, a, 1, true, rfl, ⟨HI0.out, Nat.le_refl _, HE.out ()⟩, h⟩
    case round =>
      obtain ⟨lv, lf, tv, tf, δ, rfl, HI, HW⟩ := hrel
      clear HW0
      have hmM := HmM.out ()
      have hlM : lv < M := Nat.lt_of_le_of_lt HI.out.2.1 hmM
      have htM : tv < M := Nat.lt_trans HI.out.1.lt hlM
      have hfM : tf < M := Nat.lt_of_le_of_lt HI.out.1.fac hmM
      have hgM : lf < M := Nat.lt_of_le_of_lt HI.out.1.le hmM
      have e1 := mv_lo tv tf htM
      have e2 := mv_lo lv lf hlM
      have e3 := mv_hi lv lf hlM
      have hz := fun w => isZero_any tv htM w
      have hms : mB wr b3 = tv := mB_mv wr b3 tv tf htM HW.out.h8
      obtain ⟨L, hL⟩ : ∃ X, mvN lv lf = X := ⟨_, rfl⟩
      obtain ⟨T, hT⟩ : ∃ X, mvN tv tf = X := ⟨_, rfl⟩
      rw [hT] at e1
      rw [hL] at e2 e3
      have HWL : Hid (EW w wr L T b3) := by show EW w wr L T b3; rw [← hL, ← hT]; exact HW.out
      obtain ⟨hg, h1, h2, h3, h4, h5, h6, h7, h8, h9, h10, h11, h12, h13⟩ := HWL.out
      have HMS : Hid (Unit → mB wr b3 = tv) := fun _ => hms
      clear hg hms
      by_cases ht : tv = 0
      · have HZ : Hid (∀ w, Calls Try.prog 45 #[.agg (nw 9 tv)] w fun e w' => e = .returned (.bool true) ∧ Gr w w') := fun w => by
          have := hz w
          rw [decide_eq_true ht] at this
          exact this
        have HF : Hid (Unit → E = (lv, lf, δ)) := fun _ => by
          have := HI.out.2.2
          rw [ht, eu_zero] at this
          exact this.symm
        clear hz ht hL hT hlM htM hfM hgM hmM
        go_wp2_with (go_at_call 45; refine (HZ.out _).mono ?_; rintro e w' ⟨rfl, g, rfl⟩)
        go_big_region
        all_goals
          go_wp2_with fail
          refine bodyPost_ret (res_three Try.results50 (rd_nat (x := lv) (by rfl) ?_) (rd_nat (x := lf) (by rfl) ?_) (rd_tmp (by rfl))) rfl ⟨by rw [HF.out ()]; rfl, ?_⟩
          · simp [go_sem, *]
          · simp [go_sem, *]
          · have hg := HWL.out.g
            repeat (first | exact hg | apply Gr.drewN | apply Gr.drew | apply Gr.alloc | apply Gr.gro | (refine gr_setNew ?_ (by omega)))
      · have ht0 : 0 < tv := by omega
        have HZ : Hid (∀ w, Calls Try.prog 45 #[.agg (nw 9 tv)] w fun e w' => e = .returned (.bool false) ∧ Gr w w') := fun w => by
          have := hz w
          rw [decide_eq_false ht] at this
          exact this
        have hst := HI.out.1.step ht0
        have hfi := HI.out.1.fits ht0
        have hes := eu_step lv lf tv tf δ ht0
        have hle := fun w => less_any lv lf tv tf hlM hgM ht0 htM hfM (Nat.lt_of_le_of_lt hfi hmM) w
        rw [HI.out.2.2] at hes
        have hmod : lv % tv < tv := Nat.mod_lt _ ht0
        obtain ⟨r, hr⟩ : ∃ x, lv % tv = x := ⟨_, rfl⟩
        obtain ⟨F, hF⟩ : ∃ x, lf + lv / tv * tf = x := ⟨_, rfl⟩
        rw [hr, hF] at hst hes hle
        rw [hr] at hmod
        rw [hL, hT] at hle
        obtain ⟨N, hN⟩ : ∃ x, mvN r F = x := ⟨_, rfl⟩
        rw [hN] at hle
        have HL : Hid (∀ w, Calls Try.prog 67 #[.agg (nw 18 L), .agg (nw 18 T)] w fun e w' => e = .returned (.agg (nw 18 N)) ∧ Gr w w') := hle
        have HNX : Hid (Unit → EI a m tv tf r F (!δ) ∧ tv ≤ m ∧ eu tv tf r F (!δ) = E ∧ mvN tv tf = T ∧ mvN r F = N ∧ r < tv ∧ tv < M) := fun _ => ⟨hst, by have := HI.out.1.lt; have := HI.out.2.1; omega, hes.symm, hT, hN, hmod, htM⟩
        clear hz ht hL hT hlM htM hfM hgM hmM hst hfi hes hle hr hF hN hmod ht0 e2 e3
        have hne : ¬ (w.heap.size + 1 + 1 + 1 + 1) = b3 := by omega
        go_upto_region 5 with (go_at_call 45; refine (HZ.out _).mono ?_; rintro e w' ⟨rfl, g, rfl⟩)
        go_cut [9] from 19 to 22 (fun β wx => β = .bool δ ∧ Hid (EW w wx T N b3))
        case first =>
          go_region_with (go_at_call 67; refine (HL.out _).mono ?_; rintro e w' ⟨rfl, g5, rfl⟩)
          all_goals
            go_wp2_with fail
            go_meet
            exact ⟨rfl, ((HWL.out.set4 T).set8 N).gr ⟨_, rfl⟩⟩
        case rest =>
          obtain ⟨rfl, HW2⟩ := hcut
          clear h1 h2 h3 h4 h5 h6 h7 h8 h9 h10 h11 h12 h13 e1 hne
          go_wp2_with fail
          go_roundw
          case rel =>
            obtain ⟨k1, k2, k3, k4, k5, k6, k7⟩ := HNX.out ()
            refine ⟨tv, tf, r, F, !δ, rfl, ⟨k1, k2, k3⟩, ?_⟩
            show EW w _ (mvN tv tf) (mvN r F) b3
            rw [k4, k5]
            exact HW2.out
          case measure =>
            obtain ⟨k1, k2, k3, k4, k5, k6, k7⟩ := HNX.out ()
            rw [HMS.out (), mB_mv _ b3 r F (by omega) (by rw [k5]; exact HW2.out.h8)]
            exact k6

end Go.Proofs.Ytleckbdhebjfkaa
namespace Go.Proofs.Ytleckbdhebjfkaa
open Go.RowKit
attribute [local go_sem ↓] loadNat_is loadArr_is loadWide_is loadArrW_is storeNat_is storeWide_is
attribute [local go_sem] loadNat loadArr loadWide loadArrW storeNat storeWide idxArr fold9 fold18 nw_size nw_elem pre_self pre_1 pre_2 pre_3 pre_4 pre_5 pre_6 pre_7 pre_8 pre_9 pre_10 pre_11 pre_12 pre_13 pre_14 pre_15 pre_16 pre_17 pre_18 pre_19 pre_20 pre_21 pre_22 pre_23 pre_24 pre_25 pre_26 pre_27 pre_28 pre_29 pre_30 pre_31 pre_32 pre_33 pre_34 pre_35 pre_36 pre_37 pre_38 pre_39 pre_40 gro_size gro_drew gro_drewN drew_gro drewN_gro gro_gro blk_gro frz_gro blk_drew frz_drew blk_drewN frz_drewN blk_alloc_at frz_alloc_at blk_alloc frz_alloc cell_gro frozen_gro cell_alloc_pre frozen_alloc_pre setCell_drewN alloc_drewN setBlk_drew setBlk_drewN setBlk_alloc_at setBlk_alloc setBlk_gro setCell_gro setCell_alloc_pre size_setBlk size_setCell
attribute [local go_sem ↓] loadDv_is load19_is storeDv_is store19_is copy_is
attribute [local go_sem] idx18 loadDv load19 storeDv store19 dv_size dv_9 dv_10 dv_e9 dv_e10 dv_elem fold11 fold19 setCell_in cell_in frozen_in frz_setBlk blk_setBlk setBlk_setBlk copy_run cpA_nw ones_nw

attribute [local go_sem ↓] loadMv_is storeMv_is buildMv_is
attribute [local go_sem] loadMv storeMv loadLo loadHi ext_lo ext_hi buildMv2 buildMv1

attribute [local go_sem ↓] Go.wp_at_zero Go.wp_at_succ
attribute [local go_sem] blk_other nw_ext9 nw_ext18 eqArr9 eqArr18
set_option maxRecDepth 100000 in
set_option maxHeartbeats 400000 in
theorem inv_zero (a : Nat) (w : World) :
    Calls Try.prog 27 #[.agg (nw 9 a), .agg (nw 9 0)] w fun e w' => e = .returned (.tuple #[.agg (nw 9 0), .int .i64 400]) ∧ Gr w w' := by
  have HZ : Hid (∀ w, Calls Try.prog 45 #[.agg (nw 9 0)] w fun e w' => e = .returned (.bool true) ∧ Gr w w') := fun w => isZero_any 0 M_pos w
  go_enter Try.func27, Try.ntmps27
  go_wp2_with (go_at_call 45; refine (HZ.out _).mono ?_; rintro e w' ⟨rfl, g, rfl⟩)
  refine bodyPost_ret (res_two Try.results27 (rd_nat (x := 0) (by rfl) ?_) (rd_tmp (by rfl))) rfl ⟨rfl, (by repeat (first | exact Gr.refl _ | apply Gr.drewN | apply Gr.drew | apply Gr.alloc | apply Gr.gro))⟩
  simp [go_sem]
set_option maxRecDepth 100000 in
set_option maxHeartbeats 400000 in
theorem inv_m1 (a : Nat) (w : World) :
    Calls Try.prog 27 #[.agg (nw 9 a), .agg (nw 9 1)] w fun e w' => e = .returned (.tuple #[.agg (nw 9 0), .int .i64 401]) ∧ Gr w w' := by
  have HZ : Hid (∀ w, Calls Try.prog 45 #[.agg (nw 9 1)] w fun e w' => e = .returned (.bool false) ∧ Gr w w') := fun w => notZero 1 (by decide) (lt_M 1 (by decide)) w
  have HO : Hid (∀ w, Calls Try.prog 33 #[.int .i64 1] w fun e w' => e = .returned (.agg (nw 9 1)) ∧ Gr w w') := fun w => small_any 1 (by decide) w
  have e1 := eqN_self 9 1
  go_enter Try.func27, Try.ntmps27
  go_wp2_with (first
    | (go_at_call 45; refine (HZ.out _).mono ?_; rintro e w' ⟨rfl, g, rfl⟩)
    | (go_at_call 33; refine (HO.out _).mono ?_; rintro e w' ⟨rfl, g1, rfl⟩))
  refine bodyPost_ret (res_two Try.results27 (rd_nat (x := 0) (by rfl) ?_) (rd_tmp (by rfl))) rfl ⟨rfl, (by repeat (first | exact Gr.refl _ | apply Gr.drewN | apply Gr.drew | apply Gr.alloc | apply Gr.gro))⟩
  simp [go_sem]

theorem gcd_mod (m a : Nat) : Nat.gcd m (a % m) = Nat.gcd m a := by
  rw [Nat.gcd_comm, ← Nat.gcd_rec m a]
/-- What euclid answers of a modulo m. -/
theorem eu_inv (a m : Nat) (hm : 1 < m) : ∃ g f δ, eu m 0 (a % m) 1 true = (g, f, δ) ∧ g = Nat.gcd m a ∧ f ≤ m ∧ (g = 1 → (if δ then m - f else f) < m ∧ a * (if δ then m - f else f) % m = 1) := by
  obtain ⟨g, f, δ, h1, h2, h3, h4⟩ := eu_end (a % m) m (a % m) m 0 1 true (EI.start (a % m) m (Nat.mod_lt _ (by omega)))
  refine ⟨g, f, δ, h1, by rw [h2, gcd_mod], h3, fun hg => ?_⟩
  subst hg
  have := inv_of (a % m) m f δ hm h3 (by simpa using h4)
  rw [Nat.mod_mul_mod] at this
  exact this
/-- What Inverse answers where the greatest common part is gg, and x the factor. -/
def InvP (gg x : Nat) (e : Ending) : Prop := (gg = 1 → e = .returned (.tuple #[.agg (nw 9 x), .int .i64 0])) ∧ (gg ≠ 1 → e = .returned (.tuple #[.agg (nw 9 0), .int .i64 401]))
set_option maxRecDepth 100000 in
set_option maxHeartbeats 2400000 in
theorem inv_walk (a m gg ff : Nat) (δ : Bool) (ha : a < M) (hm : 1 < m) (hM : m < M) (hE : eu m 0 (a % m) 1 true = (gg, ff, δ)) (hg : gg < M) (hf : ff ≤ m) (w : World) :
    Calls Try.prog 27 #[.agg (nw 9 a), .agg (nw 9 m)] w fun e w' => InvP gg (if δ then m - ff else ff) e ∧ Gr w w' := by
  have HZ : Hid (∀ w, Calls Try.prog 45 #[.agg (nw 9 m)] w fun e w' => e = .returned (.bool false) ∧ Gr w w') := fun w => notZero m (by omega) hM w
  have HO : Hid (∀ w, Calls Try.prog 33 #[.int .i64 1] w fun e w' => e = .returned (.agg (nw 9 1)) ∧ Gr w w') := fun w => small_any 1 (by decide) w
  obtain ⟨D, n, u, hd, hD⟩ := divisorOf_any m (by omega) hM
  have HD : Hid (∀ w, Calls Try.prog 46 #[.agg (nw 9 m)] w fun e w' => e = .returned (.agg (dv D (n + 1) u)) ∧ Gr w w') := hD
  have HW : Hid (∀ w, Calls Try.prog 48 #[.agg (nw 9 a)] w fun e w' => e = .returned (.agg (nw 18 a)) ∧ Gr w w') := fun w => widen_any a ha w
  have hr := fun w => restD a m D n u hd (lt18 a ha) w
  have he := fun w => euclid_any (a % m) m hM (Nat.mod_lt _ (by omega)) w
  rw [hE] at he
  obtain ⟨A, hA⟩ : ∃ A, a % m = A := ⟨_, rfl⟩
  rw [hA] at hr he
  have HR : Hid (∀ w, Calls Try.prog 51 #[.agg (dv D (n + 1) u), .agg (nw 18 a)] w fun e w' => e = .returned (.agg (nw 9 A)) ∧ Gr w w') := hr
  have HE : Hid (∀ w, Calls Try.prog 50 #[.agg (nw 9 A), .agg (nw 9 m)] w fun e w' => e = .returned (.tuple #[.agg (nw 9 gg), .agg (nw 9 ff), .bool δ]) ∧ Gr w w') := he
  have hs := fun w => sub_any m ff hM (Nat.lt_of_le_of_lt hf hM) w
  have hsm : (m + M - ff) % M = m - ff := by
    rw [show m + M - ff = (m - ff) + M by omega, Nat.add_mod_right, Nat.mod_eq_of_lt (by omega)]
  rw [hsm, decide_eq_false (by omega)] at hs
  obtain ⟨S, hS⟩ : ∃ S, m - ff = S := ⟨_, rfl⟩
  rw [hS] at hs ⊢
  obtain ⟨X, hX⟩ : ∃ X, (if δ = true then S else ff) = X := ⟨_, rfl⟩
  rw [hX]
  have HS : Hid (∀ w, Calls Try.prog 52 #[.agg (nw 9 m), .agg (nw 9 ff)] w fun e w' => e = .returned (.tuple #[.agg (nw 9 S), .bool false]) ∧ Gr w w') := hs
  have e1 : eqN 9 m 1 = false := by rw [eqN9 m 1 hM (lt_M 1 (by decide))]; exact decide_eq_false (by omega)
  have e2 : eqN 9 gg 1 = decide (gg = 1) := eqN9 gg 1 hg (lt_M 1 (by decide))
  have HX : Hid (Unit → (δ = false → X = ff) ∧ (δ = true → X = S)) := fun _ => by
    rw [← hX]
    exact ⟨fun h => by rw [h]; rfl, fun h => by rw [h]; rfl⟩
  clear hr he hA hd hD hs hsm hS ha hm hM hE hg hf hX
  go_enter Try.func27, Try.ntmps27
  go_wp2_with (first
    | (go_at_call 45; refine (HZ.out _).mono ?_; rintro e w' ⟨rfl, g, rfl⟩)
    | (go_at_call 33; refine (HO.out _).mono ?_; rintro e w' ⟨rfl, g1, rfl⟩))
  refine wp_region_mix (by kernel_rfl) (by kernel_rfl) (RG _ (fun i => match i with | 0 => some (.agg (nw 9 m)) | 1 => some (.agg (dv D (n + 1) u)) | 2 => some (.agg (nw 9 a)) | 3 => some (.agg (nw 18 a)) | 4 => some (.agg (nw 9 A)) | 5 => some (.agg (nw 9 m)) | 6 => some (.tuple #[.agg (nw 9 gg), .agg (nw 9 ff), .bool δ]) | 7 => some (.tuple #[.agg (nw 9 gg), .agg (nw 9 ff), .bool δ]) | 8 => some (.agg (nw 9 gg)) | 9 => some (.agg (nw 9 ff)) | 10 => some (.bool δ) | 15 => some (.bool δ) | _ => none) (fun i => match i with | 11 => some (nw 9 0) | 12 => some (nw 9 0) | _ => none) (fun i => match i with | 11 => some (13, nw 9 gg) | 12 => some (14, nw 9 ff) | _ => none)) (RG.start _ _ _ _ _ _) ?hs ?hf
  case hs =>
    intro listed vals a1 v1 i o hz hR hF ho hl hd
    have hks : ∀ (j k : Nat) (r : Array Value), (match j with | 11 => some (13, nw 9 gg) | 12 => some (14, nw 9 ff) | _ => (none : Option (Nat × Array Value))) = some (k, r) → (j = 11 ∧ k = 13) ∨ (j = 12 ∧ k = 14) := fun j k r h => by
      split at h <;> simp_all
    have hbm : blk v1 (w.heap.size + 1) = nw 9 m := (blk_of _ _ _ (hR.1.below.block (w.heap.size + 1) (by simp [go_sem] <;> omega))).trans (by simp [go_sem])
    have hba : blk v1 (w.heap.size) = nw 9 a := (blk_of _ _ _ (hR.1.below.block (w.heap.size) (by simp [go_sem] <;> omega))).trans (by simp [go_sem])
    have hbr : blk v1 (w.heap.size + 1 + 1) = nw 9 0 := (blk_of _ _ _ (hR.1.below.block (w.heap.size + 1 + 1) (by simp [go_sem] <;> omega))).trans (by simp [go_sem])
    have hb6 : blk v1 ((w.heap.size + 1 + 1 + 1 + (g.os.length + g1.os.length))) = nw 9 1 := (blk_of _ _ _ (hR.1.below.block ((w.heap.size + 1 + 1 + 1 + (g.os.length + g1.os.length))) (by simp [go_sem] <;> omega))).trans (by simp [go_sem])
    have hi : i < 16 := by simpa using (Array.getElem?_eq_some_iff.1 ho).1
    have hil : i < listed.size := by rw [hz]; simpa using hi
    obtain rfl | rfl | rfl | rfl | rfl | rfl | rfl | rfl | rfl | rfl | rfl | rfl | rfl | rfl | rfl | rfl : i = 0 ∨ i = 1 ∨ i = 2 ∨ i = 3 ∨ i = 4 ∨ i = 5 ∨ i = 6 ∨ i = 7 ∨ i = 8 ∨ i = 9 ∨ i = 10 ∨ i = 11 ∨ i = 12 ∨ i = 13 ∨ i = 14 ∨ i = 15 := by omega
    · obtain rfl := Option.some.inj ho
      have f0 := hF.old (s := 3) (v := .pointer (some ⟨w.heap.size + 1, 0, none⟩)) (by kernel_rfl) rfl
      exact wp_val (.agg (nw 9 m)) (by simp [go_sem, f0, hbm]) ⟨_, rfl, RG.quiet 0 _ hil rfl rfl (fun j k r h => by have := hks j k r h; omega) (Gr.refl _) hR⟩
    · obtain rfl := Option.some.inj ho
      have l0 := hd ⟨0, .data⟩ (by simp) rfl
      have f0 := hF.at (s := 19) (i := 0) (by kernel_rfl) (by simp) l0
      rw [hR.2.1 0 _ l0 rfl] at f0
      exact wp_ret (.agg (dv D (n + 1) u)) (by simp [go_sem, f0]) (HD.out _) (fun w2 hg => ⟨_, rfl, RG.quiet 1 _ hil rfl rfl (fun j k r h => by have := hks j k r h; omega) hg hR⟩)
    · obtain rfl := Option.some.inj ho
      have f0 := hF.old (s := 2) (v := .pointer (some ⟨w.heap.size, 0, none⟩)) (by kernel_rfl) rfl
      exact wp_val (.agg (nw 9 a)) (by simp [go_sem, f0, hba]) ⟨_, rfl, RG.quiet 2 _ hil rfl rfl (fun j k r h => by have := hks j k r h; omega) (Gr.refl _) hR⟩
    · obtain rfl := Option.some.inj ho
      have l0 := hd ⟨2, .data⟩ (by simp) rfl
      have f0 := hF.at (s := 21) (i := 2) (by kernel_rfl) (by simp) l0
      rw [hR.2.1 2 _ l0 rfl] at f0
      exact wp_ret (.agg (nw 18 a)) (by simp [go_sem, f0]) (HW.out _) (fun w2 hg => ⟨_, rfl, RG.quiet 3 _ hil rfl rfl (fun j k r h => by have := hks j k r h; omega) hg hR⟩)
    · obtain rfl := Option.some.inj ho
      have l0 := hd ⟨1, .data⟩ (by simp) rfl
      have f0 := hF.at (s := 20) (i := 1) (by kernel_rfl) (by simp) l0
      rw [hR.2.1 1 _ l0 rfl] at f0
      have l1 := hd ⟨3, .data⟩ (by simp) rfl
      have f1 := hF.at (s := 22) (i := 3) (by kernel_rfl) (by simp) l1
      rw [hR.2.1 3 _ l1 rfl] at f1
      exact wp_ret (.agg (nw 9 A)) (by simp [go_sem, f0, f1]) (HR.out _) (fun w2 hg => ⟨_, rfl, RG.quiet 4 _ hil rfl rfl (fun j k r h => by have := hks j k r h; omega) hg hR⟩)
    · obtain rfl := Option.some.inj ho
      have f0 := hF.old (s := 3) (v := .pointer (some ⟨w.heap.size + 1, 0, none⟩)) (by kernel_rfl) rfl
      exact wp_val (.agg (nw 9 m)) (by simp [go_sem, f0, hbm]) ⟨_, rfl, RG.quiet 5 _ hil rfl rfl (fun j k r h => by have := hks j k r h; omega) (Gr.refl _) hR⟩
    · obtain rfl := Option.some.inj ho
      have l0 := hd ⟨4, .data⟩ (by simp) rfl
      have f0 := hF.at (s := 23) (i := 4) (by kernel_rfl) (by simp) l0
      rw [hR.2.1 4 _ l0 rfl] at f0
      have l1 := hd ⟨5, .data⟩ (by simp) rfl
      have f1 := hF.at (s := 24) (i := 5) (by kernel_rfl) (by simp) l1
      rw [hR.2.1 5 _ l1 rfl] at f1
      exact wp_ret (.tuple #[.agg (nw 9 gg), .agg (nw 9 ff), .bool δ]) (by simp [go_sem, f0, f1]) (HE.out _) (fun w2 hg => ⟨_, rfl, RG.quiet 6 _ hil rfl rfl (fun j k r h => by have := hks j k r h; omega) hg hR⟩)
    · obtain rfl := Option.some.inj ho
      have l0 := hd ⟨6, .data⟩ (by simp) rfl
      have f0 := hF.at (s := 25) (i := 6) (by kernel_rfl) (by simp) l0
      rw [hR.2.1 6 _ l0 rfl] at f0
      exact wp_val (.tuple #[.agg (nw 9 gg), .agg (nw 9 ff), .bool δ]) (by simp [go_sem, f0]) ⟨_, rfl, RG.quiet 7 _ hil rfl rfl (fun j k r h => by have := hks j k r h; omega) (Gr.refl _) hR⟩
    · obtain rfl := Option.some.inj ho
      have l0 := hd ⟨7, .data⟩ (by simp) rfl
      have f0 := hF.at (s := 18) (i := 7) (by kernel_rfl) (by simp) l0
      rw [hR.2.1 7 _ l0 rfl] at f0
      exact wp_val (.agg (nw 9 gg)) (by simp [go_sem, f0]) ⟨_, rfl, RG.quiet 8 _ hil rfl rfl (fun j k r h => by have := hks j k r h; omega) (Gr.refl _) hR⟩
    · obtain rfl := Option.some.inj ho
      have l0 := hd ⟨7, .data⟩ (by simp) rfl
      have f0 := hF.at (s := 18) (i := 7) (by kernel_rfl) (by simp) l0
      rw [hR.2.1 7 _ l0 rfl] at f0
      exact wp_val (.agg (nw 9 ff)) (by simp [go_sem, f0]) ⟨_, rfl, RG.quiet 9 _ hil rfl rfl (fun j k r h => by have := hks j k r h; omega) (Gr.refl _) hR⟩
    · obtain rfl := Option.some.inj ho
      have l0 := hd ⟨7, .data⟩ (by simp) rfl
      have f0 := hF.at (s := 18) (i := 7) (by kernel_rfl) (by simp) l0
      rw [hR.2.1 7 _ l0 rfl] at f0
      exact wp_val (.bool δ) (by simp [go_sem, f0]) ⟨_, rfl, RG.quiet 10 _ hil rfl rfl (fun j k r h => by have := hks j k r h; omega) (Gr.refl _) hR⟩
    · obtain rfl := Option.some.inj ho
      exact wp_val (.pointer (some ⟨v1.heap.size, 0, none⟩)) (w' := v1.alloc (.cells (nw 9 0) 25)) (by simp [go_sem]) ⟨_, rfl, RG.alloc 11 (nw 9 0) 25 hil hl rfl rfl (fun j k r h => by have := hks j k r h; omega) hR⟩
    · obtain rfl := Option.some.inj ho
      exact wp_val (.pointer (some ⟨v1.heap.size, 0, none⟩)) (w' := v1.alloc (.cells (nw 9 0) 25)) (by simp [go_sem]) ⟨_, rfl, RG.alloc 12 (nw 9 0) 25 hil hl rfl rfl (fun j k r h => by have := hks j k r h; omega) hR⟩
    · obtain rfl := Option.some.inj ho
      have l0 := hd ⟨11, .data⟩ (by simp) rfl
      have l1 := hd ⟨8, .data⟩ (by simp) rfl
      obtain ⟨B, h4, h5⟩ := hR.2.2.2
      obtain ⟨e1, e2, e3, e4, e5⟩ := h4 11 (nw 9 0) l0 rfl
      simp only [hl] at e5
      replace e5 : blk v1 (B 11) = nw 9 0 := e5
      have f0 := hF.at (s := 7) (i := 11) (by kernel_rfl) (by simp) l0
      rw [e1] at f0
      have f1 := hF.at (s := 26) (i := 8) (by kernel_rfl) (by simp) l1
      rw [hR.2.1 8 _ l1 rfl] at f1
      exact wp_skip (w' := setBlk v1 (B 11) (nw 9 gg)) (by simp [go_sem, f0, f1, e4, e5]) ⟨undef, rfl, RG.store 13 11 (nw 9 0) (nw 9 gg) (B 11) hil hl rfl rfl rfl l0 rfl (by rw [nw_size]; decide) e1 (fun k r h => by have := hks k _ r h; omega) hR⟩
    · obtain rfl := Option.some.inj ho
      have l0 := hd ⟨12, .data⟩ (by simp) rfl
      have l1 := hd ⟨9, .data⟩ (by simp) rfl
      obtain ⟨B, h4, h5⟩ := hR.2.2.2
      obtain ⟨e1, e2, e3, e4, e5⟩ := h4 12 (nw 9 0) l0 rfl
      simp only [hl] at e5
      replace e5 : blk v1 (B 12) = nw 9 0 := e5
      have f0 := hF.at (s := 8) (i := 12) (by kernel_rfl) (by simp) l0
      rw [e1] at f0
      have f1 := hF.at (s := 27) (i := 9) (by kernel_rfl) (by simp) l1
      rw [hR.2.1 9 _ l1 rfl] at f1
      exact wp_skip (w' := setBlk v1 (B 12) (nw 9 ff)) (by simp [go_sem, f0, f1, e4, e5]) ⟨undef, rfl, RG.store 14 12 (nw 9 0) (nw 9 ff) (B 12) hil hl rfl rfl rfl l0 rfl (by rw [nw_size]; decide) e1 (fun k r h => by have := hks k _ r h; omega) hR⟩
    · obtain rfl := Option.some.inj ho
      have l0 := hd ⟨10, .data⟩ (by simp) rfl
      have f0 := hF.at (s := 28) (i := 10) (by kernel_rfl) (by simp) l0
      rw [hR.2.1 10 _ l0 rfl] at f0
      exact wp_val (.bool δ) (by simp [go_sem, f0]) ⟨_, rfl, RG.quiet 15 _ hil rfl rfl (fun j k r h => by have := hks j k r h; omega) (Gr.refl _) hR⟩
  case hf =>
    intro listed vals a1 v1 hall hR hF
    have hbm : blk v1 (w.heap.size + 1) = nw 9 m := (blk_of _ _ _ (hR.1.below.block (w.heap.size + 1) (by simp [go_sem] <;> omega))).trans (by simp [go_sem])
    have phbm : Pre (w.heap.size + 1 + 1) v1.heap.size := Nat.le_trans (show w.heap.size + 1 + 1 ≤ _ from by simp [go_sem] <;> omega) hR.1.below.size
    have hba : blk v1 (w.heap.size) = nw 9 a := (blk_of _ _ _ (hR.1.below.block (w.heap.size) (by simp [go_sem] <;> omega))).trans (by simp [go_sem])
    have phba : Pre (w.heap.size + 1) v1.heap.size := Nat.le_trans (show w.heap.size + 1 ≤ _ from by simp [go_sem] <;> omega) hR.1.below.size
    have hbr : blk v1 (w.heap.size + 1 + 1) = nw 9 0 := (blk_of _ _ _ (hR.1.below.block (w.heap.size + 1 + 1) (by simp [go_sem] <;> omega))).trans (by simp [go_sem])
    have phbr : Pre (w.heap.size + 1 + 1 + 1) v1.heap.size := Nat.le_trans (show w.heap.size + 1 + 1 + 1 ≤ _ from by simp [go_sem] <;> omega) hR.1.below.size
    have hb6 : blk v1 ((w.heap.size + 1 + 1 + 1 + (g.os.length + g1.os.length))) = nw 9 1 := (blk_of _ _ _ (hR.1.below.block ((w.heap.size + 1 + 1 + 1 + (g.os.length + g1.os.length))) (by simp [go_sem] <;> omega))).trans (by simp [go_sem])
    have phb6 : Pre ((w.heap.size + 1 + 1 + 1 + (g.os.length + g1.os.length)) + 1) v1.heap.size := Nat.le_trans (show (w.heap.size + 1 + 1 + 1 + (g.os.length + g1.os.length)) + 1 ≤ _ from by simp [go_sem] <;> omega) hR.1.below.size
    have hV := hR.2.1
    obtain ⟨B, h4, h5⟩ := hR.2.2.2
    have x0 := hV 0 _ (hall 0 (by simp)) rfl
    have x1 := hV 1 _ (hall 1 (by simp)) rfl
    have x2 := hV 2 _ (hall 2 (by simp)) rfl
    have x3 := hV 3 _ (hall 3 (by simp)) rfl
    have x4 := hV 4 _ (hall 4 (by simp)) rfl
    have x5 := hV 5 _ (hall 5 (by simp)) rfl
    have x6 := hV 6 _ (hall 6 (by simp)) rfl
    have x7 := hV 7 _ (hall 7 (by simp)) rfl
    have x8 := hV 8 _ (hall 8 (by simp)) rfl
    have x9 := hV 9 _ (hall 9 (by simp)) rfl
    have x10 := hV 10 _ (hall 10 (by simp)) rfl
    have x15 := hV 15 _ (hall 15 (by simp)) rfl
    obtain ⟨x11, q11, p11, z11, y11⟩ := h4 11 _ (hall 11 (by simp)) rfl
    simp only [hall 13 (by simp), if_true] at y11
    replace p11 : Pre (B 11 + 1) v1.heap.size := p11
    replace y11 : blk v1 (B 11) = nw 9 gg := y11
    obtain ⟨x12, q12, p12, z12, y12⟩ := h4 12 _ (hall 12 (by simp)) rfl
    simp only [hall 14 (by simp), if_true] at y12
    replace p12 : Pre (B 12 + 1) v1.heap.size := p12
    replace y12 : blk v1 (B 12) = nw 9 ff := y12
    have hb1 := hR.1
    rw [hF.final (by kernel_rfl) hall]
    simp only [putFrom, Act.put, List.setIfInBounds_toArray, List.set_cons_zero, List.set_cons_succ, x0, x1, x2, x3, x4, x5, x6, x7, x8, x9, x10, x15, x11, x12]
    generalize B 11 = b11 at *
    generalize B 12 = b12 at *
    clear hV h4 h5 hR hF hall x0 x1 x2 x3 x4 x5 x6 x7 x8 x9 x10 x15 x11 x12
    have fr : frz v1 (w.heap.size + 1 + 1) = (0, 0) := hb1.frz0 _ (by simp [go_sem] <;> omega) (by simp [go_sem])
    have HG : Hid (Gr w v1) := by show Gr w v1; refine Gr.trans ?_ hb1; exact (by repeat (first | exact Gr.refl _ | apply Gr.drewN | apply Gr.drew | apply Gr.alloc | apply Gr.gro))
    have n12 : ¬ b12 = w.heap.size + 1 + 1 := fun e => by have h := q12; rw [e] at h; simp [go_sem] at h; omega
    have n12' : ¬ (w.heap.size + 1 + 1) = b12 := fun e => n12 e.symm
    have q12' : w.heap.size ≤ b12 := by have h := q12; simp [go_sem] at h; omega
    generalize (w.heap.size + 1 + 1 + 1 + (g.os.length + g1.os.length)) = b6 at *
    clear hb1 q11 q12
    by_cases h1 : gg = 1
    · rw [decide_eq_true h1] at e2
      have H1 : Hid (Unit → gg = 1) := fun _ => h1
      clear h1
      cases hδ : δ with
      | false =>
        have HXX := ((HX.out ()).1 hδ)
        have HXH : Hid (Unit → X = ff) := fun _ => HXX
        clear HXX HX
        subst hδ
        go_wp2_with (go_at_call 52; refine (HS.out _).mono ?_; rintro e w' ⟨rfl, g3, rfl⟩)
        refine bodyPost_ret (res_two Try.results27 (rd_nat (x := ff) (by rfl) ?_) (rd_tmp (by rfl))) rfl ⟨⟨fun _ => by rw [HXH.out ()]; rfl, fun h => absurd (H1.out ()) h⟩, ?_⟩
        · simp [go_sem, *]
        · repeat (first | exact HG.out | apply Gr.drewN | apply Gr.drew | apply Gr.alloc | apply Gr.gro | (refine gr_setNew ?_ (by omega)))
      | true =>
        have HXX := ((HX.out ()).2 hδ)
        have HXH : Hid (Unit → X = S) := fun _ => HXX
        clear HXX HX
        subst hδ
        go_wp2_with (go_at_call 52; refine (HS.out _).mono ?_; rintro e w' ⟨rfl, g3, rfl⟩)
        refine bodyPost_ret (res_two Try.results27 (rd_nat (x := S) (by rfl) ?_) (rd_tmp (by rfl))) rfl ⟨⟨fun _ => by rw [HXH.out ()]; rfl, fun h => absurd (H1.out ()) h⟩, ?_⟩
        · simp [go_sem, *]
        · repeat (first | exact HG.out | apply Gr.drewN | apply Gr.drew | apply Gr.alloc | apply Gr.gro | (refine gr_setNew ?_ (by omega)))
    · rw [decide_eq_false h1] at e2
      have H1 : Hid (Unit → ¬ gg = 1) := fun _ => h1
      clear h1
      go_wp2_with fail
      refine bodyPost_ret (res_two Try.results27 (rd_nat (x := 0) (by rfl) ?_) (rd_tmp (by rfl))) rfl ⟨⟨fun h => absurd h (H1.out ()), fun _ => rfl⟩, ?_⟩
      · simp [go_sem, *]
      · repeat (first | exact HG.out | apply Gr.drewN | apply Gr.drew | apply Gr.alloc | apply Gr.gro | (refine gr_setNew ?_ (by omega)))
theorem gcd_lt (m a : Nat) (h : 0 < m) (hM : m < M) : Nat.gcd m a < M := Nat.lt_of_le_of_lt (Nat.gcd_le_left a h) hM
/-- There is an inverse. -/
theorem inv_some (a m : Nat) (ha : a < M) (hm : 1 < m) (hM : m < M) (hg : Nat.gcd m a = 1) :
    ∃ x, x < m ∧ a * x % m = 1 ∧ ∀ w, Calls Try.prog 27 #[.agg (nw 9 a), .agg (nw 9 m)] w fun e w' => e = .returned (.tuple #[.agg (nw 9 x), .int .i64 0]) ∧ Gr w w' := by
  obtain ⟨g, f, δ, h1, h2, h3, h4⟩ := eu_inv a m hm
  have hg1 : g = 1 := by rw [h2, hg]
  obtain ⟨h5, h6⟩ := h4 hg1
  refine ⟨_, h5, h6, fun w => (inv_walk a m g f δ ha hm hM h1 (by rw [h2]; exact gcd_lt m a (by omega) hM) h3 w).mono fun e w' h => ?_⟩
  exact ⟨h.1.1 hg1, h.2⟩
/-- There is none. -/
theorem inv_none (a m : Nat) (ha : a < M) (hm : 1 < m) (hM : m < M) (hg : Nat.gcd m a ≠ 1) (w : World) :
    Calls Try.prog 27 #[.agg (nw 9 a), .agg (nw 9 m)] w fun e w' => e = .returned (.tuple #[.agg (nw 9 0), .int .i64 401]) ∧ Gr w w' := by
  obtain ⟨g, f, δ, h1, h2, h3, h4⟩ := eu_inv a m hm
  refine (inv_walk a m g f δ ha hm hM h1 (by rw [h2]; exact gcd_lt m a (by omega) hM) h3 w).mono fun e w' h => ?_
  exact ⟨h.1.2 (by rw [h2]; exact hg), h.2⟩

end Go.Proofs.Ytleckbdhebjfkaa
