/-
  divide.Inverse: what it hands back.
-/
import Derived.Test.YtbafjcbbiiipfaaDEu
namespace Go.Proofs.Ytbafjcbbiiipfaa
open Go.RowKit
attribute [local go_sem ↓] loadNat_is loadArr_is loadWide_is loadArrW_is storeNat_is storeWide_is
attribute [local go_sem] loadNat loadArr loadWide loadArrW storeNat storeWide idxArr fold9 fold18 nw_size nw_elem pre_self pre_1 pre_2 pre_3 pre_4 pre_5 pre_6 pre_7 pre_8 pre_9 pre_10 pre_11 pre_12 pre_13 pre_14 pre_15 pre_16 pre_17 pre_18 pre_19 pre_20 pre_21 pre_22 pre_23 pre_24 pre_25 pre_26 pre_27 pre_28 pre_29 pre_30 pre_31 pre_32 pre_33 pre_34 pre_35 pre_36 pre_37 pre_38 pre_39 pre_40 gro_size gro_drew gro_drewN drew_gro drewN_gro gro_gro blk_gro frz_gro blk_drew frz_drew blk_drewN frz_drewN blk_alloc_at frz_alloc_at blk_alloc frz_alloc cell_gro frozen_gro cell_alloc_pre frozen_alloc_pre setCell_drewN alloc_drewN setBlk_drew setBlk_drewN setBlk_alloc_at setBlk_alloc setBlk_gro setCell_gro setCell_alloc_pre size_setBlk size_setCell
attribute [local go_sem ↓] loadDv_is load19_is storeDv_is store19_is copy_is
attribute [local go_sem] idx18 loadDv load19 storeDv store19 dv_size dv_9 dv_10 dv_e9 dv_e10 dv_elem fold11 fold19 setCell_in cell_in frozen_in frz_setBlk blk_setBlk setBlk_setBlk copy_run cpA_nw ones_nw

attribute [local go_sem ↓] loadMv_is storeMv_is buildMv_is
attribute [local go_sem] loadMv storeMv loadLo loadHi ext_lo ext_hi buildMv2 buildMv1

attribute [local go_sem ↓] Go.wp_at_zero Go.wp_at_succ
attribute [local go_sem] blk_other nw_ext9 nw_ext18 eqArr9 eqArr18
set_option maxRecDepth 100000 in
set_option maxHeartbeats 400000 in
theorem inv_zero (a : Nat) (w : World) :
    Calls Try.prog 24 #[.agg (nw 9 a), .agg (nw 9 0)] w fun e w' => e = .returned (.tuple #[.agg (nw 9 0), .int .i64 400]) ∧ Gr w w' := by
  have HZ : Hid (∀ w, Calls Try.prog 32 #[.agg (nw 9 0)] w fun e w' => e = .returned (.bool true) ∧ Gr w w') := fun w => isZero_any 0 M_pos w
  go_enter Try.func24, Try.ntmps24
  go_wp2_with (go_at_call 32; refine (HZ.out _).mono ?_; rintro e w' ⟨rfl, g, rfl⟩)
  refine bodyPost_ret (res_two Try.results24 (rd_nat (x := 0) (by rfl) ?_) (rd_tmp (by rfl))) rfl ⟨rfl, (by repeat (first | exact Gr.refl _ | apply Gr.drewN | apply Gr.drew | apply Gr.alloc | apply Gr.gro))⟩
  simp [go_sem]
set_option maxRecDepth 100000 in
set_option maxHeartbeats 400000 in
theorem inv_m1 (a : Nat) (w : World) :
    Calls Try.prog 24 #[.agg (nw 9 a), .agg (nw 9 1)] w fun e w' => e = .returned (.tuple #[.agg (nw 9 0), .int .i64 401]) ∧ Gr w w' := by
  have HZ : Hid (∀ w, Calls Try.prog 32 #[.agg (nw 9 1)] w fun e w' => e = .returned (.bool false) ∧ Gr w w') := fun w => notZero 1 (by decide) (lt_M 1 (by decide)) w
  have HO : Hid (∀ w, Calls Try.prog 46 #[.int .i64 1] w fun e w' => e = .returned (.agg (nw 9 1)) ∧ Gr w w') := fun w => small_any 1 (by decide) w
  have e1 := eqN_self 9 1
  go_enter Try.func24, Try.ntmps24
  go_wp2_with (first
    | (go_at_call 32; refine (HZ.out _).mono ?_; rintro e w' ⟨rfl, g, rfl⟩)
    | (go_at_call 46; refine (HO.out _).mono ?_; rintro e w' ⟨rfl, g1, rfl⟩))
  refine bodyPost_ret (res_two Try.results24 (rd_nat (x := 0) (by rfl) ?_) (rd_tmp (by rfl))) rfl ⟨rfl, (by repeat (first | exact Gr.refl _ | apply Gr.drewN | apply Gr.drew | apply Gr.alloc | apply Gr.gro))⟩
  simp [go_sem]

theorem gcd_mod (m a : Nat) : Nat.gcd m (a % m) = Nat.gcd m a := by
  rw [Nat.gcd_comm, ← Nat.gcd_rec m a]
/-- What euclid answers of a modulo m. -/
theorem eu_inv (a m : Nat) (hm : 1 < m) : ∃ g f δ, eu m 0 (a % m) 1 true = (g, f, δ) ∧ g = Nat.gcd m a ∧ f ≤ m ∧ (g = 1 → (if δ then m - f else f) < m ∧ a * (if δ then m - f else f) % m = 1) := by
  obtain ⟨g, f, δ, h1, h2, h3, h4⟩ := eu_end (a % m) m (a % m) m 0 1 true (EI.start (a % m) m (Nat.mod_lt _ (by omega)))
  refine ⟨g, f, δ, h1, by rw [h2, gcd_mod], h3, fun hg => ?_⟩
  subst hg
  have := inv_of (a % m) m f δ hm h3 (by simpa using h4)
  rw [Nat.mod_mul_mod] at this
  exact this
/-- What Inverse answers where the greatest common part is gg, and x the factor. -/
def InvP (gg x : Nat) (e : Ending) : Prop := (gg = 1 → e = .returned (.tuple #[.agg (nw 9 x), .int .i64 0])) ∧ (gg ≠ 1 → e = .returned (.tuple #[.agg (nw 9 0), .int .i64 401]))
set_option maxRecDepth 100000 in
set_option maxHeartbeats 2400000 in
theorem inv_walk (a m gg ff : Nat) (δ : Bool) (ha : a < M) (hm : 1 < m) (hM : m < M) (hE : eu m 0 (a % m) 1 true = (gg, ff, δ)) (hg : gg < M) (hf : ff ≤ m) (w : World) :
    Calls Try.prog 24 #[.agg (nw 9 a), .agg (nw 9 m)] w fun e w' => InvP gg (if δ then m - ff else ff) e ∧ Gr w w' := by
  have HZ : Hid (∀ w, Calls Try.prog 32 #[.agg (nw 9 m)] w fun e w' => e = .returned (.bool false) ∧ Gr w w') := fun w => notZero m (by omega) hM w
  have HO : Hid (∀ w, Calls Try.prog 46 #[.int .i64 1] w fun e w' => e = .returned (.agg (nw 9 1)) ∧ Gr w w') := fun w => small_any 1 (by decide) w
  obtain ⟨D, n, u, hd, hD⟩ := divisorOf_any m (by omega) hM
  have HD : Hid (∀ w, Calls Try.prog 33 #[.agg (nw 9 m)] w fun e w' => e = .returned (.agg (dv D (n + 1) u)) ∧ Gr w w') := hD
  have HW : Hid (∀ w, Calls Try.prog 35 #[.agg (nw 9 a)] w fun e w' => e = .returned (.agg (nw 18 a)) ∧ Gr w w') := fun w => widen_any a ha w
  have hr := fun w => restD a m D n u hd (lt18 a ha) w
  have he := fun w => euclid_any (a % m) m hM (Nat.mod_lt _ (by omega)) w
  rw [hE] at he
  obtain ⟨A, hA⟩ : ∃ A, a % m = A := ⟨_, rfl⟩
  rw [hA] at hr he
  have HR : Hid (∀ w, Calls Try.prog 37 #[.agg (dv D (n + 1) u), .agg (nw 18 a)] w fun e w' => e = .returned (.agg (nw 9 A)) ∧ Gr w w') := hr
  have HE : Hid (∀ w, Calls Try.prog 49 #[.agg (nw 9 A), .agg (nw 9 m)] w fun e w' => e = .returned (.tuple #[.agg (nw 9 gg), .agg (nw 9 ff), .bool δ]) ∧ Gr w w') := he
  have hs := fun w => sub_any m ff hM (Nat.lt_of_le_of_lt hf hM) w
  have hsm : (m + M - ff) % M = m - ff := by
    rw [show m + M - ff = (m - ff) + M by omega, Nat.add_mod_right, Nat.mod_eq_of_lt (by omega)]
  rw [hsm, decide_eq_false (by omega)] at hs
  obtain ⟨S, hS⟩ : ∃ S, m - ff = S := ⟨_, rfl⟩
  rw [hS] at hs ⊢
  obtain ⟨X, hX⟩ : ∃ X, (if δ = true then S else ff) = X := ⟨_, rfl⟩
  rw [hX]
  have HS : Hid (∀ w, Calls Try.prog 50 #[.agg (nw 9 m), .agg (nw 9 ff)] w fun e w' => e = .returned (.tuple #[.agg (nw 9 S), .bool false]) ∧ Gr w w') := hs
  have e1 : eqN 9 m 1 = false := by rw [eqN9 m 1 hM (lt_M 1 (by decide))]; exact decide_eq_false (by omega)
  have e2 : eqN 9 gg 1 = decide (gg = 1) := eqN9 gg 1 hg (lt_M 1 (by decide))
  have HX : Hid (Unit → (δ = false → X = ff) ∧ (δ = true → X = S)) := fun _ => by
    rw [← hX]
    exact ⟨fun h => by rw [h]; rfl, fun h => by rw [h]; rfl⟩
  clear hr he hA hd hD hs hsm hS ha hm hM hE hg hf hX
  go_enter Try.func24, Try.ntmps24
  go_wp2_with (first
    | (go_at_call 32; refine (HZ.out _).mono ?_; rintro e w' ⟨rfl, g, rfl⟩)
    | (go_at_call 46; refine (HO.out _).mono ?_; rintro e w' ⟨rfl, g1, rfl⟩))
  refine wp_region_mix (by kernel_rfl) (by kernel_rfl) (RG _ (fun i => match i with | 0 => some (.agg (nw 9 m)) | 1 => some (.agg (dv D (n + 1) u)) | 2 => some (.agg (nw 9 a)) | 3 => some (.agg (nw 18 a)) | 4 => some (.agg (nw 9 A)) | 5 => some (.agg (nw 9 m)) | 6 => some (.tuple #[.agg (nw 9 gg), .agg (nw 9 ff), .bool δ]) | 7 => some (.tuple #[.agg (nw 9 gg), .agg (nw 9 ff), .bool δ]) | 8 => some (.agg (nw 9 gg)) | 9 => some (.agg (nw 9 ff)) | 10 => some (.bool δ) | 15 => some (.bool δ) | _ => none) (fun i => match i with | 11 => some (nw 9 0) | 12 => some (nw 9 0) | _ => none) (fun i => match i with | 11 => some (13, nw 9 gg) | 12 => some (14, nw 9 ff) | _ => none)) (RG.start _ _ _ _ _ _) ?hs ?hf
  case hs =>
    intro listed vals a1 v1 i o hz hR hF ho hl hd
    have hks : ∀ (j k : Nat) (r : Array Value), (match j with | 11 => some (13, nw 9 gg) | 12 => some (14, nw 9 ff) | _ => (none : Option (Nat × Array Value))) = some (k, r) → (j = 11 ∧ k = 13) ∨ (j = 12 ∧ k = 14) := fun j k r h => by
      split at h <;> simp_all
    have hbm : blk v1 (w.heap.size + 1) = nw 9 m := (blk_of _ _ _ (hR.1.below.block (w.heap.size + 1) (by simp [go_sem] <;> omega))).trans (by simp [go_sem])
    have hba : blk v1 (w.heap.size) = nw 9 a := (blk_of _ _ _ (hR.1.below.block (w.heap.size) (by simp [go_sem] <;> omega))).trans (by simp [go_sem])
    have hbr : blk v1 (w.heap.size + 1 + 1) = nw 9 0 := (blk_of _ _ _ (hR.1.below.block (w.heap.size + 1 + 1) (by simp [go_sem] <;> omega))).trans (by simp [go_sem])
    have hb6 : blk v1 ((w.heap.size + 1 + 1 + 1 + (g.os.length + g1.os.length))) = nw 9 1 := (blk_of _ _ _ (hR.1.below.block ((w.heap.size + 1 + 1 + 1 + (g.os.length + g1.os.length))) (by simp [go_sem] <;> omega))).trans (by simp [go_sem])
    have hi : i < 16 := by simpa using (Array.getElem?_eq_some_iff.1 ho).1
    have hil : i < listed.size := by rw [hz]; simpa using hi
    obtain rfl | rfl | rfl | rfl | rfl | rfl | rfl | rfl | rfl | rfl | rfl | rfl | rfl | rfl | rfl | rfl : i = 0 ∨ i = 1 ∨ i = 2 ∨ i = 3 ∨ i = 4 ∨ i = 5 ∨ i = 6 ∨ i = 7 ∨ i = 8 ∨ i = 9 ∨ i = 10 ∨ i = 11 ∨ i = 12 ∨ i = 13 ∨ i = 14 ∨ i = 15 := by omega
    · obtain rfl := Option.some.inj ho
      have f0 := hF.old (s := 3) (v := .pointer (some ⟨w.heap.size + 1, 0, none⟩)) (by kernel_rfl) rfl
      exact wp_val (.agg (nw 9 m)) (by simp [go_sem, f0, hbm]) ⟨_, rfl, RG.quiet 0 _ hil rfl rfl (fun j k r h => by have := hks j k r h; omega) (Gr.refl _) hR⟩
    · obtain rfl := Option.some.inj ho
      have l0 := hd ⟨0, .data⟩ (by simp) rfl
      have f0 := hF.at (s := 19) (i := 0) (by kernel_rfl) (by simp) l0
      rw [hR.2.1 0 _ l0 rfl] at f0
      exact wp_ret (.agg (dv D (n + 1) u)) (by simp [go_sem, f0]) (HD.out _) (fun w2 hg => ⟨_, rfl, RG.quiet 1 _ hil rfl rfl (fun j k r h => by have := hks j k r h; omega) hg hR⟩)
    · obtain rfl := Option.some.inj ho
      have f0 := hF.old (s := 2) (v := .pointer (some ⟨w.heap.size, 0, none⟩)) (by kernel_rfl) rfl
      exact wp_val (.agg (nw 9 a)) (by simp [go_sem, f0, hba]) ⟨_, rfl, RG.quiet 2 _ hil rfl rfl (fun j k r h => by have := hks j k r h; omega) (Gr.refl _) hR⟩
    · obtain rfl := Option.some.inj ho
      have l0 := hd ⟨2, .data⟩ (by simp) rfl
      have f0 := hF.at (s := 21) (i := 2) (by kernel_rfl) (by simp) l0
      rw [hR.2.1 2 _ l0 rfl] at f0
      exact wp_ret (.agg (nw 18 a)) (by simp [go_sem, f0]) (HW.out _) (fun w2 hg => ⟨_, rfl, RG.quiet 3 _ hil rfl rfl (fun j k r h => by have := hks j k r h; omega) hg hR⟩)
    · obtain rfl := Option.some.inj ho
      have l0 := hd ⟨1, .data⟩ (by simp) rfl
      have f0 := hF.at (s := 20) (i := 1) (by kernel_rfl) (by simp) l0
      rw [hR.2.1 1 _ l0 rfl] at f0
      have l1 := hd ⟨3, .data⟩ (by simp) rfl
      have f1 := hF.at (s := 22) (i := 3) (by kernel_rfl) (by simp) l1
      rw [hR.2.1 3 _ l1 rfl] at f1
      exact wp_ret (.agg (nw 9 A)) (by simp [go_sem, f0, f1]) (HR.out _) (fun w2 hg => ⟨_, rfl, RG.quiet 4 _ hil rfl rfl (fun j k r h => by have := hks j k r h; omega) hg hR⟩)
    · obtain rfl := Option.some.inj ho
      have f0 := hF.old (s := 3) (v := .pointer (some ⟨w.heap.size + 1, 0, none⟩)) (by kernel_rfl) rfl
      exact wp_val (.agg (nw 9 m)) (by simp [go_sem, f0, hbm]) ⟨_, rfl, RG.quiet 5 _ hil rfl rfl (fun j k r h => by have := hks j k r h; omega) (Gr.refl _) hR⟩
    · obtain rfl := Option.some.inj ho
      have l0 := hd ⟨4, .data⟩ (by simp) rfl
      have f0 := hF.at (s := 23) (i := 4) (by kernel_rfl) (by simp) l0
      rw [hR.2.1 4 _ l0 rfl] at f0
      have l1 := hd ⟨5, .data⟩ (by simp) rfl
      have f1 := hF.at (s := 24) (i := 5) (by kernel_rfl) (by simp) l1
      rw [hR.2.1 5 _ l1 rfl] at f1
      exact wp_ret (.tuple #[.agg (nw 9 gg), .agg (nw 9 ff), .bool δ]) (by simp [go_sem, f0, f1]) (HE.out _) (fun w2 hg => ⟨_, rfl, RG.quiet 6 _ hil rfl rfl (fun j k r h => by have := hks j k r h; omega) hg hR⟩)
    · obtain rfl := Option.some.inj ho
      have l0 := hd ⟨6, .data⟩ (by simp) rfl
      have f0 := hF.at (s := 25) (i := 6) (by kernel_rfl) (by simp) l0
      rw [hR.2.1 6 _ l0 rfl] at f0
      exact wp_val (.tuple #[.agg (nw 9 gg), .agg (nw 9 ff), .bool δ]) (by simp [go_sem, f0]) ⟨_, rfl, RG.quiet 7 _ hil rfl rfl (fun j k r h => by have := hks j k r h; omega) (Gr.refl _) hR⟩
    · obtain rfl := Option.some.inj ho
      have l0 := hd ⟨7, .data⟩ (by simp) rfl
      have f0 := hF.at (s := 18) (i := 7) (by kernel_rfl) (by simp) l0
      rw [hR.2.1 7 _ l0 rfl] at f0
      exact wp_val (.agg (nw 9 gg)) (by simp [go_sem, f0]) ⟨_, rfl, RG.quiet 8 _ hil rfl rfl (fun j k r h => by have := hks j k r h; omega) (Gr.refl _) hR⟩
    · obtain rfl := Option.some.inj ho
      have l0 := hd ⟨7, .data⟩ (by simp) rfl
      have f0 := hF.at (s := 18) (i := 7) (by kernel_rfl) (by simp) l0
      rw [hR.2.1 7 _ l0 rfl] at f0
      exact wp_val (.agg (nw 9 ff)) (by simp [go_sem, f0]) ⟨_, rfl, RG.quiet 9 _ hil rfl rfl (fun j k r h => by have := hks j k r h; omega) (Gr.refl _) hR⟩
    · obtain rfl := Option.some.inj ho
      have l0 := hd ⟨7, .data⟩ (by simp) rfl
      have f0 := hF.at (s := 18) (i := 7) (by kernel_rfl) (by simp) l0
      rw [hR.2.1 7 _ l0 rfl] at f0
      exact wp_val (.bool δ) (by simp [go_sem, f0]) ⟨_, rfl, RG.quiet 10 _ hil rfl rfl (fun j k r h => by have := hks j k r h; omega) (Gr.refl _) hR⟩
    · obtain rfl := Option.some.inj ho
      exact wp_val (.pointer (some ⟨v1.heap.size, 0, none⟩)) (w' := v1.alloc (.cells (nw 9 0) 25)) (by simp [go_sem]) ⟨_, rfl, RG.alloc 11 (nw 9 0) 25 hil hl rfl rfl (fun j k r h => by have := hks j k r h; omega) hR⟩
    · obtain rfl := Option.some.inj ho
      exact wp_val (.pointer (some ⟨v1.heap.size, 0, none⟩)) (w' := v1.alloc (.cells (nw 9 0) 25)) (by simp [go_sem]) ⟨_, rfl, RG.alloc 12 (nw 9 0) 25 hil hl rfl rfl (fun j k r h => by have := hks j k r h; omega) hR⟩
    · obtain rfl := Option.some.inj ho
      have l0 := hd ⟨11, .data⟩ (by simp) rfl
      have l1 := hd ⟨8, .data⟩ (by simp) rfl
      obtain ⟨B, h4, h5⟩ := hR.2.2.2
      obtain ⟨e1, e2, e3, e4, e5⟩ := h4 11 (nw 9 0) l0 rfl
      simp only [hl] at e5
      replace e5 : blk v1 (B 11) = nw 9 0 := e5
      have f0 := hF.at (s := 7) (i := 11) (by kernel_rfl) (by simp) l0
      rw [e1] at f0
      have f1 := hF.at (s := 26) (i := 8) (by kernel_rfl) (by simp) l1
      rw [hR.2.1 8 _ l1 rfl] at f1
      exact wp_skip (w' := setBlk v1 (B 11) (nw 9 gg)) (by simp [go_sem, f0, f1, e4, e5]) ⟨undef, rfl, RG.store 13 11 (nw 9 0) (nw 9 gg) (B 11) hil hl rfl rfl rfl l0 rfl (by rw [nw_size]; decide) e1 (fun k r h => by have := hks k _ r h; omega) hR⟩
    · obtain rfl := Option.some.inj ho
      have l0 := hd ⟨12, .data⟩ (by simp) rfl
      have l1 := hd ⟨9, .data⟩ (by simp) rfl
      obtain ⟨B, h4, h5⟩ := hR.2.2.2
      obtain ⟨e1, e2, e3, e4, e5⟩ := h4 12 (nw 9 0) l0 rfl
      simp only [hl] at e5
      replace e5 : blk v1 (B 12) = nw 9 0 := e5
      have f0 := hF.at (s := 8) (i := 12) (by kernel_rfl) (by simp) l0
      rw [e1] at f0
      have f1 := hF.at (s := 27) (i := 9) (by kernel_rfl) (by simp) l1
      rw [hR.2.1 9 _ l1 rfl] at f1
      exact wp_skip (w' := setBlk v1 (B 12) (nw 9 ff)) (by simp [go_sem, f0, f1, e4, e5]) ⟨undef, rfl, RG.store 14 12 (nw 9 0) (nw 9 ff) (B 12) hil hl rfl rfl rfl l0 rfl (by rw [nw_size]; decide) e1 (fun k r h => by have := hks k _ r h; omega) hR⟩
    · obtain rfl := Option.some.inj ho
      have l0 := hd ⟨10, .data⟩ (by simp) rfl
      have f0 := hF.at (s := 28) (i := 10) (by kernel_rfl) (by simp) l0
      rw [hR.2.1 10 _ l0 rfl] at f0
      exact wp_val (.bool δ) (by simp [go_sem, f0]) ⟨_, rfl, RG.quiet 15 _ hil rfl rfl (fun j k r h => by have := hks j k r h; omega) (Gr.refl _) hR⟩
  case hf =>
    intro listed vals a1 v1 hall hR hF
    have hbm : blk v1 (w.heap.size + 1) = nw 9 m := (blk_of _ _ _ (hR.1.below.block (w.heap.size + 1) (by simp [go_sem] <;> omega))).trans (by simp [go_sem])
    have phbm : Pre (w.heap.size + 1 + 1) v1.heap.size := Nat.le_trans (show w.heap.size + 1 + 1 ≤ _ from by simp [go_sem] <;> omega) hR.1.below.size
    have hba : blk v1 (w.heap.size) = nw 9 a := (blk_of _ _ _ (hR.1.below.block (w.heap.size) (by simp [go_sem] <;> omega))).trans (by simp [go_sem])
    have phba : Pre (w.heap.size + 1) v1.heap.size := Nat.le_trans (show w.heap.size + 1 ≤ _ from by simp [go_sem] <;> omega) hR.1.below.size
    have hbr : blk v1 (w.heap.size + 1 + 1) = nw 9 0 := (blk_of _ _ _ (hR.1.below.block (w.heap.size + 1 + 1) (by simp [go_sem] <;> omega))).trans (by simp [go_sem])
    have phbr : Pre (w.heap.size + 1 + 1 + 1) v1.heap.size := Nat.le_trans (show w.heap.size + 1 + 1 + 1 ≤ _ from by simp [go_sem] <;> omega) hR.1.below.size
    have hb6 : blk v1 ((w.heap.size + 1 + 1 + 1 + (g.os.length + g1.os.length))) = nw 9 1 := (blk_of _ _ _ (hR.1.below.block ((w.heap.size + 1 + 1 + 1 + (g.os.length + g1.os.length))) (by simp [go_sem] <;> omega))).trans (by simp [go_sem])
    have phb6 : Pre ((w.heap.size + 1 + 1 + 1 + (g.os.length + g1.os.length)) + 1) v1.heap.size := Nat.le_trans (show (w.heap.size + 1 + 1 + 1 + (g.os.length + g1.os.length)) + 1 ≤ _ from by simp [go_sem] <;> omega) hR.1.below.size
    have hV := hR.2.1
    obtain ⟨B, h4, h5⟩ := hR.2.2.2
    have x0 := hV 0 _ (hall 0 (by simp)) rfl
    have x1 := hV 1 _ (hall 1 (by simp)) rfl
    have x2 := hV 2 _ (hall 2 (by simp)) rfl
    have x3 := hV 3 _ (hall 3 (by simp)) rfl
    have x4 := hV 4 _ (hall 4 (by simp)) rfl
    have x5 := hV 5 _ (hall 5 (by simp)) rfl
    have x6 := hV 6 _ (hall 6 (by simp)) rfl
    have x7 := hV 7 _ (hall 7 (by simp)) rfl
    have x8 := hV 8 _ (hall 8 (by simp)) rfl
    have x9 := hV 9 _ (hall 9 (by simp)) rfl
    have x10 := hV 10 _ (hall 10 (by simp)) rfl
    have x15 := hV 15 _ (hall 15 (by simp)) rfl
    obtain ⟨x11, q11, p11, z11, y11⟩ := h4 11 _ (hall 11 (by simp)) rfl
    simp only [hall 13 (by simp), if_true] at y11
    replace p11 : Pre (B 11 + 1) v1.heap.size := p11
    replace y11 : blk v1 (B 11) = nw 9 gg := y11
    obtain ⟨x12, q12, p12, z12, y12⟩ := h4 12 _ (hall 12 (by simp)) rfl
    simp only [hall 14 (by simp), if_true] at y12
    replace p12 : Pre (B 12 + 1) v1.heap.size := p12
    replace y12 : blk v1 (B 12) = nw 9 ff := y12
    have hb1 := hR.1
    rw [hF.final (by kernel_rfl) hall]
    simp only [putFrom, Act.put, List.setIfInBounds_toArray, List.set_cons_zero, List.set_cons_succ, x0, x1, x2, x3, x4, x5, x6, x7, x8, x9, x10, x15, x11, x12]
    generalize B 11 = b11 at *
    generalize B 12 = b12 at *
    clear hV h4 h5 hR hF hall x0 x1 x2 x3 x4 x5 x6 x7 x8 x9 x10 x15 x11 x12
    have fr : frz v1 (w.heap.size + 1 + 1) = (0, 0) := hb1.frz0 _ (by simp [go_sem] <;> omega) (by simp [go_sem])
    have HG : Hid (Gr w v1) := by show Gr w v1; refine Gr.trans ?_ hb1; exact (by repeat (first | exact Gr.refl _ | apply Gr.drewN | apply Gr.drew | apply Gr.alloc | apply Gr.gro))
    have n12 : ¬ b12 = w.heap.size + 1 + 1 := fun e => by have h := q12; rw [e] at h; simp [go_sem] at h; omega
    have n12' : ¬ (w.heap.size + 1 + 1) = b12 := fun e => n12 e.symm
    have q12' : w.heap.size ≤ b12 := by have h := q12; simp [go_sem] at h; omega
    generalize (w.heap.size + 1 + 1 + 1 + (g.os.length + g1.os.length)) = b6 at *
    clear hb1 q11 q12
    by_cases h1 : gg = 1
    · rw [decide_eq_true h1] at e2
      have H1 : Hid (Unit → gg = 1) := fun _ => h1
      clear h1
      cases hδ : δ with
      | false =>
        have HXX := ((HX.out ()).1 hδ)
        have HXH : Hid (Unit → X = ff) := fun _ => HXX
        clear HXX HX
        subst hδ
        go_wp2_with (go_at_call 50; refine (HS.out _).mono ?_; rintro e w' ⟨rfl, g3, rfl⟩)
        refine bodyPost_ret (res_two Try.results24 (rd_nat (x := ff) (by rfl) ?_) (rd_tmp (by rfl))) rfl ⟨⟨fun _ => by rw [HXH.out ()]; rfl, fun h => absurd (H1.out ()) h⟩, ?_⟩
        · simp [go_sem, *]
        · repeat (first | exact HG.out | apply Gr.drewN | apply Gr.drew | apply Gr.alloc | apply Gr.gro | (refine gr_setNew ?_ (by omega)))
      | true =>
        have HXX := ((HX.out ()).2 hδ)
        have HXH : Hid (Unit → X = S) := fun _ => HXX
        clear HXX HX
        subst hδ
        go_wp2_with (go_at_call 50; refine (HS.out _).mono ?_; rintro e w' ⟨rfl, g3, rfl⟩)
        refine bodyPost_ret (res_two Try.results24 (rd_nat (x := S) (by rfl) ?_) (rd_tmp (by rfl))) rfl ⟨⟨fun _ => by rw [HXH.out ()]; rfl, fun h => absurd (H1.out ()) h⟩, ?_⟩
        · simp [go_sem, *]
        · repeat (first | exact HG.out | apply Gr.drewN | apply Gr.drew | apply Gr.alloc | apply Gr.gro | (refine gr_setNew ?_ (by omega)))
    · rw [decide_eq_false h1] at e2
      have H1 : Hid (Unit → ¬ gg = 1) := fun _ => h1
      clear h1
      go_wp2_with fail
      refine bodyPost_ret (res_two Try.results24 (rd_nat (x := 0) (by rfl) ?_) (rd_tmp (by rfl))) rfl ⟨⟨fun h => absurd h (H1.out ()), fun _ => rfl⟩, ?_⟩
      · simp [go_sem, *]
      · repeat (first | exact HG.out | apply Gr.drewN | apply Gr.drew | apply Gr.alloc | apply Gr.gro | (refine gr_setNew ?_ (by omega)))
theorem gcd_lt (m a : Nat) (h : 0 < m) (hM : m < M) : Nat.gcd m a < M := Nat.lt_of_le_of_lt (Nat.gcd_le_left a h) hM
/-- There is an inverse. -/
theorem inv_some (a m : Nat) (ha : a < M) (hm : 1 < m) (hM : m < M) (hg : Nat.gcd m a = 1) :
    ∃ x, x < m ∧ a * x % m = 1 ∧ ∀ w, Calls Try.prog 24 #[.agg (nw 9 a), .agg (nw 9 m)] w fun e w' => e = .returned (.tuple #[.agg (nw 9 x), .int .i64 0]) ∧ Gr w w' := by
  obtain ⟨g, f, δ, h1, h2, h3, h4⟩ := eu_inv a m hm
  have hg1 : g = 1 := by rw [h2, hg]
  obtain ⟨h5, h6⟩ := h4 hg1
  refine ⟨_, h5, h6, fun w => (inv_walk a m g f δ ha hm hM h1 (by rw [h2]; exact gcd_lt m a (by omega) hM) h3 w).mono fun e w' h => ?_⟩
  exact ⟨h.1.1 hg1, h.2⟩
/-- There is none. -/
theorem inv_none (a m : Nat) (ha : a < M) (hm : 1 < m) (hM : m < M) (hg : Nat.gcd m a ≠ 1) (w : World) :
    Calls Try.prog 24 #[.agg (nw 9 a), .agg (nw 9 m)] w fun e w' => e = .returned (.tuple #[.agg (nw 9 0), .int .i64 401]) ∧ Gr w w' := by
  obtain ⟨g, f, δ, h1, h2, h3, h4⟩ := eu_inv a m hm
  refine (inv_walk a m g f δ ha hm hM h1 (by rw [h2]; exact gcd_lt m a (by omega) hM) h3 w).mono fun e w' h => ?_
  exact ⟨h.1.2 (by rw [h2]; exact hg), h.2⟩

end Go.Proofs.Ytbafjcbbiiipfaa
