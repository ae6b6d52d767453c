/-
  divide.euclid: what it hands back.
-/
import Derived.Test.YtbafjcbbiiipfaaDL
namespace Go.Proofs.Ytbafjcbbiiipfaa
open Go.RowKit
attribute [local go_sem ↓] loadNat_is loadArr_is loadWide_is loadArrW_is storeNat_is storeWide_is
attribute [local go_sem] loadNat loadArr loadWide loadArrW storeNat storeWide idxArr fold9 fold18 nw_size nw_elem pre_self pre_1 pre_2 pre_3 pre_4 pre_5 pre_6 pre_7 pre_8 pre_9 pre_10 pre_11 pre_12 pre_13 pre_14 pre_15 pre_16 pre_17 pre_18 pre_19 pre_20 pre_21 pre_22 pre_23 pre_24 pre_25 pre_26 pre_27 pre_28 pre_29 pre_30 pre_31 pre_32 pre_33 pre_34 pre_35 pre_36 pre_37 pre_38 pre_39 pre_40 gro_size gro_drew gro_drewN drew_gro drewN_gro gro_gro blk_gro frz_gro blk_drew frz_drew blk_drewN frz_drewN blk_alloc_at frz_alloc_at blk_alloc frz_alloc cell_gro frozen_gro cell_alloc_pre frozen_alloc_pre setCell_drewN alloc_drewN setBlk_drew setBlk_drewN setBlk_alloc_at setBlk_alloc setBlk_gro setCell_gro setCell_alloc_pre size_setBlk size_setCell
attribute [local go_sem ↓] loadDv_is load19_is storeDv_is store19_is copy_is
attribute [local go_sem] idx18 loadDv load19 storeDv store19 dv_size dv_9 dv_10 dv_e9 dv_e10 dv_elem fold11 fold19 setCell_in cell_in frozen_in frz_setBlk blk_setBlk setBlk_setBlk copy_run cpA_nw ones_nw

attribute [local go_sem ↓] loadMv_is storeMv_is buildMv_is
attribute [local go_sem] loadMv storeMv loadLo loadHi ext_lo ext_hi buildMv2 buildMv1

attribute [local go_sem ↓] Go.wp_at_zero Go.wp_at_succ
attribute [local go_sem] blk_other

/-- The number that a row's first words make. -/
def vB (c : Array Value) : Nat → Nat
  | 0 => 0
  | n + 1 => vB c n + (intOf (c.getD n undef)).toNat * pw n
theorem vB_nw (N X : Nat) : ∀ n, n ≤ N → vB (nw N X) n = X % pw n
  | 0, _ => by rw [vB, pw_zero, Nat.mod_one]
  | n + 1, h => by
    rw [vB, vB_nw N X n (by omega), mod_succ]
    have e : (nw N X).getD n undef = .int .u64 ((wd X n : Nat) : Int) := by
      have := nw_get N X n (by omega)
      rw [Array.getD_eq_getD_getElem?, this]
      rfl
    rw [e]
    simp [intOf]
def mB (w : World) (b : Nat) : Nat := vB (blk w b) 9
theorem mB_mv (w : World) (b a f : Nat) (ha : a < M) (h : blk w b = nw 18 (mvN a f)) : mB w b = a := by
  unfold mB
  rw [h, vB_nw 18 _ 9 (by decide)]
  show (a + f * M) % M = a
  rw [Nat.add_mul_mod_self_right, Nat.mod_eq_of_lt ha]
/-- What the loop of euclid keeps: the last one and this one, each in its block. -/
structure EW (w v : World) (L T b : Nat) : Prop where
  g : Gr w v
  h2 : blk v (w.heap.size + 1 + 1) = nw 9 0
  f2 : frz v (w.heap.size + 1 + 1) = (0, 0)
  p2 : Pre (w.heap.size + 1 + 1 + 1) v.heap.size
  h3 : blk v (w.heap.size + 1 + 1 + 1) = nw 9 0
  f3 : frz v (w.heap.size + 1 + 1 + 1) = (0, 0)
  p3 : Pre (w.heap.size + 1 + 1 + 1 + 1) v.heap.size
  h4 : blk v (w.heap.size + 1 + 1 + 1 + 1) = nw 18 L
  f4 : frz v (w.heap.size + 1 + 1 + 1 + 1) = (0, 0)
  p4 : Pre (w.heap.size + 1 + 1 + 1 + 1 + 1) v.heap.size
  h8 : blk v b = nw 18 T
  f8 : frz v b = (0, 0)
  p8 : Pre (b + 1) v.heap.size
  q8 : w.heap.size + 1 + 1 + 1 + 1 + 1 ≤ b
theorem EW.gr {w v v' : World} {L T b : Nat} (h : EW w v L T b) (k : Gr v v') : EW w v' L T b := by
  have hs := k.below.size
  have pr : ∀ {x}, Pre x v.heap.size → Pre x v'.heap.size := fun h => Nat.le_trans h hs
  exact ⟨h.g.trans k, by rw [k.blk _ h.p2]; exact h.h2, by rw [k.frz _ h.p2]; exact h.f2, pr h.p2, by rw [k.blk _ h.p3]; exact h.h3, by rw [k.frz _ h.p3]; exact h.f3, pr h.p3,
    by rw [k.blk _ h.p4]; exact h.h4, by rw [k.frz _ h.p4]; exact h.f4, pr h.p4, by rw [k.blk _ h.p8]; exact h.h8, by rw [k.frz _ h.p8]; exact h.f8, pr h.p8, h.q8⟩
theorem EW.set4 {w v : World} {L T b : Nat} (h : EW w v L T b) (X : Nat) : EW w (setBlk v (w.heap.size + 1 + 1 + 1 + 1) (nw 18 X)) X T b := by
  have q := h.q8
  have pr : ∀ {x}, Pre x v.heap.size → Pre x (setBlk v (w.heap.size + 1 + 1 + 1 + 1) (nw 18 X)).heap.size := fun h => by rw [size_setBlk]; exact h
  exact ⟨gr_setNew h.g (by omega), by rw [blk_other _ _ _ _ (by omega)]; exact h.h2, by rw [frz_setBlk]; exact h.f2, pr h.p2, by rw [blk_other _ _ _ _ (by omega)]; exact h.h3, by rw [frz_setBlk]; exact h.f3, pr h.p3,
    blk_setBlk _ _ _ (by rw [h.h4, nw_size]; decide), by rw [frz_setBlk]; exact h.f4, pr h.p4, by rw [blk_other _ _ _ _ (by omega)]; exact h.h8, by rw [frz_setBlk]; exact h.f8, pr h.p8, h.q8⟩
theorem EW.set8 {w v : World} {L T b : Nat} (h : EW w v L T b) (X : Nat) : EW w (setBlk v b (nw 18 X)) L X b := by
  have q := h.q8
  have pr : ∀ {x}, Pre x v.heap.size → Pre x (setBlk v b (nw 18 X)).heap.size := fun h => by rw [size_setBlk]; exact h
  exact ⟨gr_setNew h.g (by omega), by rw [blk_other _ _ _ _ (by omega)]; exact h.h2, by rw [frz_setBlk]; exact h.f2, pr h.p2, by rw [blk_other _ _ _ _ (by omega)]; exact h.h3, by rw [frz_setBlk]; exact h.f3, pr h.p3,
    by rw [blk_other _ _ _ _ (by omega)]; exact h.h4, by rw [frz_setBlk]; exact h.f4, pr h.p4, blk_setBlk _ _ _ (by rw [h.h8, nw_size]; decide), by rw [frz_setBlk]; exact h.f8, pr h.p8, h.q8⟩
set_option maxRecDepth 100000 in
set_option maxHeartbeats 4000000 in
theorem euclid_any (a m : Nat) (hm : m < M) (ham : a < m) (w : World) :
    Calls Try.prog 49 #[.agg (nw 9 a), .agg (nw 9 m)] w fun e w' => e = .returned (.tuple #[.agg (nw 9 (eu m 0 a 1 true).1), .agg (nw 9 (eu m 0 a 1 true).2.1), .bool (eu m 0 a 1 true).2.2]) ∧ Gr w w' := by
  have HO : Hid (∀ w, Calls Try.prog 46 #[.int .i64 1] w fun e w' => e = .returned (.agg (nw 9 1)) ∧ Gr w w') := fun w => small_any 1 (by decide) w
  have haM : a < M := Nat.lt_trans ham hm
  have ap0 := app_mv m 0 hm
  have ap1 := app_mv a 1 haM
  obtain ⟨M0, hM0⟩ : ∃ X, mvN m 0 = X := ⟨_, rfl⟩
  obtain ⟨A1, hA1⟩ : ∃ X, mvN a 1 = X := ⟨_, rfl⟩
  rw [hM0] at ap0
  rw [hA1] at ap1
  have HA1 : Hid (Unit → nw 9 a ++ nw 9 1 = nw 18 A1) := fun _ => ap1
  have HE0 : Hid (Unit → M0 = mvN m 0 ∧ A1 = mvN a 1) := fun _ => ⟨hM0.symm, hA1.symm⟩
  have HI0 : Hid (EI a m m 0 a 1 true) := EI.start a m ham
  have HmM : Hid (Unit → m < M) := fun _ => hm
  obtain ⟨E, hE⟩ : ∃ E, eu m 0 a 1 true = E := ⟨_, rfl⟩
  rw [hE]
  have HE : Hid (Unit → eu m 0 a 1 true = E) := fun _ => hE
  clear ap1 hM0 hA1 haM hm ham hE
  go_enter Try.func49, Try.ntmps49
  go_wp2_with fail
  refine wp_region_mix (by kernel_rfl) (by kernel_rfl) (RG _ (fun i => match i with | 0 => some (.agg (nw 9 a)) | 1 => some (.agg (nw 9 1)) | 2 => some (.agg (nw 18 A1)) | _ => none) (fun i => match i with | 3 => some (nw 18 0) | _ => none) (fun i => match i with | 3 => some (4, nw 18 A1) | _ => none)) (RG.start _ _ _ _ _ _) ?hs ?hf
  case hs =>
    intro listed vals a1 v1 i o hz hR hF ho hl hd
    have hks : ∀ (j k : Nat) (r : Array Value), (match j with | 3 => some (4, nw 18 A1) | _ => (none : Option (Nat × Array Value))) = some (k, r) → (j = 3 ∧ k = 4) := fun j k r h => by
      split at h <;> simp_all
    have hba : blk v1 (w.heap.size) = nw 9 a := (blk_of _ _ _ (hR.1.below.block (w.heap.size) (by simp [go_sem] <;> omega))).trans (by simp [go_sem])
    have hb2 : blk v1 (w.heap.size + 1 + 1) = nw 9 0 := (blk_of _ _ _ (hR.1.below.block (w.heap.size + 1 + 1) (by simp [go_sem] <;> omega))).trans (by simp [go_sem])
    have hb3 : blk v1 (w.heap.size + 1 + 1 + 1) = nw 9 0 := (blk_of _ _ _ (hR.1.below.block (w.heap.size + 1 + 1 + 1) (by simp [go_sem] <;> omega))).trans (by simp [go_sem])
    have hb4 : blk v1 (w.heap.size + 1 + 1 + 1 + 1) = nw 18 M0 := (blk_of _ _ _ (hR.1.below.block (w.heap.size + 1 + 1 + 1 + 1) (by simp [go_sem] <;> omega))).trans (by simp [go_sem])
    have hi : i < 5 := by simpa using (Array.getElem?_eq_some_iff.1 ho).1
    have hil : i < listed.size := by rw [hz]; simpa using hi
    obtain rfl | rfl | rfl | rfl | rfl : i = 0 ∨ i = 1 ∨ i = 2 ∨ i = 3 ∨ i = 4 := by omega
    · obtain rfl := Option.some.inj ho
      have f0 := hF.old (s := 2) (v := .pointer (some ⟨w.heap.size, 0, none⟩)) (by kernel_rfl) rfl
      exact wp_val (.agg (nw 9 a)) (by simp [go_sem, f0, hba]) ⟨_, rfl, RG.quiet 0 _ hil rfl rfl (fun j k r h => by have := hks j k r h; omega) (Gr.refl _) hR⟩
    · obtain rfl := Option.some.inj ho
      exact wp_ret (.agg (nw 9 1)) (by simp [go_sem]) (HO.out _) (fun w2 hg => ⟨_, rfl, RG.quiet 1 _ hil rfl rfl (fun j k r h => by have := hks j k r h; omega) hg hR⟩)
    · obtain rfl := Option.some.inj ho
      have l0 := hd ⟨0, .data⟩ (by simp) rfl
      have f0 := hF.at (s := 12) (i := 0) (by kernel_rfl) (by simp) l0
      rw [hR.2.1 0 _ l0 rfl] at f0
      have l1 := hd ⟨1, .data⟩ (by simp) rfl
      have f1 := hF.at (s := 13) (i := 1) (by kernel_rfl) (by simp) l1
      rw [hR.2.1 1 _ l1 rfl] at f1
      exact wp_val (.agg (nw 18 A1)) (by simp [go_sem, f0, f1, HA1.out ()]) ⟨_, rfl, RG.quiet 2 _ hil rfl rfl (fun j k r h => by have := hks j k r h; omega) (Gr.refl _) hR⟩
    · obtain rfl := Option.some.inj ho
      exact wp_val (.pointer (some ⟨v1.heap.size, 0, none⟩)) (w' := v1.alloc (.cells (nw 18 0) 95)) (by simp [go_sem]) ⟨_, rfl, RG.alloc 3 (nw 18 0) 95 hil hl rfl rfl (fun j k r h => by have := hks j k r h; omega) hR⟩
    · obtain rfl := Option.some.inj ho
      have l0 := hd ⟨3, .data⟩ (by simp) rfl
      have l1 := hd ⟨2, .data⟩ (by simp) rfl
      obtain ⟨B, h4, h5⟩ := hR.2.2.2
      obtain ⟨e1, e2, e3, e4, e5⟩ := h4 3 (nw 18 0) l0 rfl
      simp only [hl] at e5
      replace e5 : blk v1 (B 3) = nw 18 0 := e5
      have f0 := hF.at (s := 8) (i := 3) (by kernel_rfl) (by simp) l0
      rw [e1] at f0
      have f1 := hF.at (s := 14) (i := 2) (by kernel_rfl) (by simp) l1
      rw [hR.2.1 2 _ l1 rfl] at f1
      exact wp_skip (w' := setBlk v1 (B 3) (nw 18 A1)) (by simp [go_sem, f0, f1, e4, e5]) ⟨undef, rfl, RG.store 4 3 (nw 18 0) (nw 18 A1) (B 3) hil hl rfl rfl rfl l0 rfl (by rw [nw_size]; decide) e1 (fun k r h => by have := hks k _ r h; omega) hR⟩
  case hf =>
    intro listed vals a1 v1 hall hR hF
    have hba : blk v1 (w.heap.size) = nw 9 a := (blk_of _ _ _ (hR.1.below.block (w.heap.size) (by simp [go_sem] <;> omega))).trans (by simp [go_sem])
    have phba : Pre (w.heap.size + 1) v1.heap.size := Nat.le_trans (show w.heap.size + 1 ≤ _ from by simp [go_sem] <;> omega) hR.1.below.size
    have hb2 : blk v1 (w.heap.size + 1 + 1) = nw 9 0 := (blk_of _ _ _ (hR.1.below.block (w.heap.size + 1 + 1) (by simp [go_sem] <;> omega))).trans (by simp [go_sem])
    have phb2 : Pre (w.heap.size + 1 + 1 + 1) v1.heap.size := Nat.le_trans (show w.heap.size + 1 + 1 + 1 ≤ _ from by simp [go_sem] <;> omega) hR.1.below.size
    have hb3 : blk v1 (w.heap.size + 1 + 1 + 1) = nw 9 0 := (blk_of _ _ _ (hR.1.below.block (w.heap.size + 1 + 1 + 1) (by simp [go_sem] <;> omega))).trans (by simp [go_sem])
    have phb3 : Pre (w.heap.size + 1 + 1 + 1 + 1) v1.heap.size := Nat.le_trans (show w.heap.size + 1 + 1 + 1 + 1 ≤ _ from by simp [go_sem] <;> omega) hR.1.below.size
    have hb4 : blk v1 (w.heap.size + 1 + 1 + 1 + 1) = nw 18 M0 := (blk_of _ _ _ (hR.1.below.block (w.heap.size + 1 + 1 + 1 + 1) (by simp [go_sem] <;> omega))).trans (by simp [go_sem])
    have phb4 : Pre (w.heap.size + 1 + 1 + 1 + 1 + 1) v1.heap.size := Nat.le_trans (show w.heap.size + 1 + 1 + 1 + 1 + 1 ≤ _ from by simp [go_sem] <;> omega) hR.1.below.size
    have hV := hR.2.1
    obtain ⟨B, h4, h5⟩ := hR.2.2.2
    have x0 := hV 0 _ (hall 0 (by simp)) rfl
    have x1 := hV 1 _ (hall 1 (by simp)) rfl
    have x2 := hV 2 _ (hall 2 (by simp)) rfl
    obtain ⟨x3, q3, p3, z3, y3⟩ := h4 3 _ (hall 3 (by simp)) rfl
    simp only [hall 4 (by simp), if_true] at y3
    replace p3 : Pre (B 3 + 1) v1.heap.size := p3
    replace y3 : blk v1 (B 3) = nw 18 A1 := y3
    have hb1 := hR.1
    rw [hF.final (by kernel_rfl) hall]
    simp only [putFrom, Act.put, List.setIfInBounds_toArray, List.set_cons_zero, List.set_cons_succ, x0, x1, x2, x3]
    generalize B 3 = b3 at *
    clear hV h4 h5 hR hF hall x0 x1 x2 x3
    have hw : EW w v1 M0 A1 b3 := by
      refine ⟨Gr.trans ?_ hb1, hb2, hb1.frz0 _ (by simp [go_sem] <;> omega) (by simp [go_sem]), phb2, hb3, hb1.frz0 _ (by simp [go_sem] <;> omega) (by simp [go_sem]), phb3, hb4, hb1.frz0 _ (by simp [go_sem] <;> omega) (by simp [go_sem]), phb4, y3, z3, p3, ?_⟩
      · exact (by repeat (first | exact Gr.refl _ | apply Gr.drewN | apply Gr.drew | apply Gr.alloc | apply Gr.gro))
      · have h := q3; simp [go_sem] at h; omega
    have HW0 : Hid (EW w v1 M0 A1 b3) := hw
    clear hba phba hb2 phb2 hb3 phb3 hb4 phb4 p3 y3 z3 q3 hb1 hw ap0 HA1 HO
    go_wp2_with fail
    go_loopw [9] (fun β wr => ∃ (lv lf tv tf : Nat) (δ : Bool), β = .bool δ ∧ Hid (EI a m lv lf tv tf δ ∧ lv ≤ m ∧ eu lv lf tv tf δ = E) ∧ Hid (EW w wr (mvN lv lf) (mvN tv tf) b3)) (fun _ wr => mB wr b3)
    case atStart =>
      have h := HW0.out
      rw [(HE0.out ()).1, (HE0.out ()).2] at h
      exact ⟨m, 0, a, 1, true, rfl, ⟨HI0.out, Nat.le_refl _, HE.out ()⟩, h⟩
    case round =>
      obtain ⟨lv, lf, tv, tf, δ, rfl, HI, HW⟩ := hrel
      clear HW0
      have hmM := HmM.out ()
      have hlM : lv < M := Nat.lt_of_le_of_lt HI.out.2.1 hmM
      have htM : tv < M := Nat.lt_trans HI.out.1.lt hlM
      have hfM : tf < M := Nat.lt_of_le_of_lt HI.out.1.fac hmM
      have hgM : lf < M := Nat.lt_of_le_of_lt HI.out.1.le hmM
      have e1 := mv_lo tv tf htM
      have e2 := mv_lo lv lf hlM
      have e3 := mv_hi lv lf hlM
      have hz := fun w => isZero_any tv htM w
      have hms : mB wr b3 = tv := mB_mv wr b3 tv tf htM HW.out.h8
      obtain ⟨L, hL⟩ : ∃ X, mvN lv lf = X := ⟨_, rfl⟩
      obtain ⟨T, hT⟩ : ∃ X, mvN tv tf = X := ⟨_, rfl⟩
      rw [hT] at e1
      rw [hL] at e2 e3
      have HWL : Hid (EW w wr L T b3) := by show EW w wr L T b3; rw [← hL, ← hT]; exact HW.out
      obtain ⟨hg, h1, h2, h3, h4, h5, h6, h7, h8, h9, h10, h11, h12, h13⟩ := HWL.out
      have HMS : Hid (Unit → mB wr b3 = tv) := fun _ => hms
      clear hg hms
      by_cases ht : tv = 0
      · have HZ : Hid (∀ w, Calls Try.prog 32 #[.agg (nw 9 tv)] w fun e w' => e = .returned (.bool true) ∧ Gr w w') := fun w => by
          have := hz w
          rw [decide_eq_true ht] at this
          exact this
        have HF : Hid (Unit → E = (lv, lf, δ)) := fun _ => by
          have := HI.out.2.2
          rw [ht, eu_zero] at this
          exact this.symm
        clear hz ht hL hT hlM htM hfM hgM hmM
        go_wp2_with (go_at_call 32; refine (HZ.out _).mono ?_; rintro e w' ⟨rfl, g, rfl⟩)
        go_big_region
        all_goals
          go_wp2_with fail
          refine bodyPost_ret (res_three Try.results49 (rd_nat (x := lv) (by rfl) ?_) (rd_nat (x := lf) (by rfl) ?_) (rd_tmp (by rfl))) rfl ⟨by rw [HF.out ()]; rfl, ?_⟩
          · simp [go_sem, *]
          · simp [go_sem, *]
          · have hg := HWL.out.g
            repeat (first | exact hg | apply Gr.drewN | apply Gr.drew | apply Gr.alloc | apply Gr.gro | (refine gr_setNew ?_ (by omega)))
      · have ht0 : 0 < tv := by omega
        have HZ : Hid (∀ w, Calls Try.prog 32 #[.agg (nw 9 tv)] w fun e w' => e = .returned (.bool false) ∧ Gr w w') := fun w => by
          have := hz w
          rw [decide_eq_false ht] at this
          exact this
        have hst := HI.out.1.step ht0
        have hfi := HI.out.1.fits ht0
        have hes := eu_step lv lf tv tf δ ht0
        have hle := fun w => less_any lv lf tv tf hlM hgM ht0 htM hfM (Nat.lt_of_le_of_lt hfi hmM) w
        rw [HI.out.2.2] at hes
        have hmod : lv % tv < tv := Nat.mod_lt _ ht0
        obtain ⟨r, hr⟩ : ∃ x, lv % tv = x := ⟨_, rfl⟩
        obtain ⟨F, hF⟩ : ∃ x, lf + lv / tv * tf = x := ⟨_, rfl⟩
        rw [hr, hF] at hst hes hle
        rw [hr] at hmod
        rw [hL, hT] at hle
        obtain ⟨N, hN⟩ : ∃ x, mvN r F = x := ⟨_, rfl⟩
        rw [hN] at hle
        have HL : Hid (∀ w, Calls Try.prog 62 #[.agg (nw 18 L), .agg (nw 18 T)] w fun e w' => e = .returned (.agg (nw 18 N)) ∧ Gr w w') := hle
        have HNX : Hid (Unit → EI a m tv tf r F (!δ) ∧ tv ≤ m ∧ eu tv tf r F (!δ) = E ∧ mvN tv tf = T ∧ mvN r F = N ∧ r < tv ∧ tv < M) := fun _ => ⟨hst, by have := HI.out.1.lt; have := HI.out.2.1; omega, hes.symm, hT, hN, hmod, htM⟩
        clear hz ht hL hT hlM htM hfM hgM hmM hst hfi hes hle hr hF hN hmod ht0 e2 e3
        have hne : ¬ (w.heap.size + 1 + 1 + 1 + 1) = b3 := by omega
        go_upto_region 5 with (go_at_call 32; refine (HZ.out _).mono ?_; rintro e w' ⟨rfl, g, rfl⟩)
        go_cut [9] from 19 to 22 (fun β wx => β = .bool δ ∧ Hid (EW w wx T N b3))
        case first =>
          go_region_with (go_at_call 62; refine (HL.out _).mono ?_; rintro e w' ⟨rfl, g5, rfl⟩)
          all_goals
            go_wp2_with fail
            go_meet
            exact ⟨rfl, ((HWL.out.set4 T).set8 N).gr ⟨_, rfl⟩⟩
        case rest =>
          obtain ⟨rfl, HW2⟩ := hcut
          clear h1 h2 h3 h4 h5 h6 h7 h8 h9 h10 h11 h12 h13 e1 hne
          go_wp2_with fail
          go_roundw
          case rel =>
            obtain ⟨k1, k2, k3, k4, k5, k6, k7⟩ := HNX.out ()
            refine ⟨tv, tf, r, F, !δ, rfl, ⟨k1, k2, k3⟩, ?_⟩
            show EW w _ (mvN tv tf) (mvN r F) b3
            rw [k4, k5]
            exact HW2.out
          case measure =>
            obtain ⟨k1, k2, k3, k4, k5, k6, k7⟩ := HNX.out ()
            rw [HMS.out (), mB_mv _ b3 r F (by omega) (by rw [k5]; exact HW2.out.h8)]
            exact k6

end Go.Proofs.Ytbafjcbbiiipfaa
