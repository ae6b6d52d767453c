/-
  The statement FieldProducts, walked: it answers true for every id and every two numbers.
-/
import Derived.Test.YtkmpholjlophpaaZFAw
import Derived.Test.YtkmpholjlophpaaZFL
import Derived.Test.YtkmpholjlophpaaZFQ
namespace Go.Proofs.Ytkmpholjlophpaa
open Go.RowKit
attribute [local go_sem ↓] loadNat_is loadArr_is loadWide_is loadArrW_is storeNat_is storeWide_is
attribute [local go_sem] loadNat loadArr loadWide loadArrW storeNat storeWide idxArr fold9 fold18 nw_size nw_elem pre_self pre_1 pre_2 pre_3 pre_4 pre_5 pre_6 pre_7 pre_8 pre_9 pre_10 pre_11 pre_12 pre_13 pre_14 pre_15 pre_16 pre_17 pre_18 pre_19 pre_20 pre_21 pre_22 pre_23 pre_24 pre_25 pre_26 pre_27 pre_28 pre_29 pre_30 pre_31 pre_32 pre_33 pre_34 pre_35 pre_36 pre_37 pre_38 pre_39 pre_40 gro_size gro_drew gro_drewN drew_gro drewN_gro gro_gro blk_gro frz_gro blk_drew frz_drew blk_drewN frz_drewN blk_alloc_at frz_alloc_at blk_alloc frz_alloc cell_gro frozen_gro cell_alloc_pre frozen_alloc_pre setCell_drewN alloc_drewN setBlk_drew setBlk_drewN setBlk_alloc_at setBlk_alloc setBlk_gro setCell_gro setCell_alloc_pre size_setBlk size_setCell
attribute [local go_sem] nw_ext9 nw_ext18 eqArr9 eqArr18

attribute [local go_sem] loadNat2 loadArr2 loadWide2 loadK_nw ppre_1 ppre_2 ppre_3 ppre_4 ppre_5 ppre_6 ppre_7 ppre_8 ppre_9 ppre_10 ppre_11 ppre_12 ppre_13 ppre_14 ppre_15 ppre_16 ppre_17 ppre_18 ppre_19 ppre_20

attribute [local go_sem ↓] loadC_is storeC_is Go.wp_at_zero Go.wp_at_succ
attribute [local go_sem] eqN_self loadC storeCv cvA_size frz_setBlk blk_setBlk setBlk_setBlk blk_other
set_option maxRecDepth 100000 in
set_option maxHeartbeats 4000000 in
theorem fprod_x0 (id : Int) (k a b : Nat) (h1 : 1 ≤ k) (h2 : k ≤ 15) (ha : a < M) (hb : b < M) (hz : a % pN k = 0)
    (HO : ∀ w, Calls Try.prog 34 #[.int .i64 id] w fun e w' => ∃ p n q, e = .returned (.tuple #[.agg (cvA k p (dl (pN k)) n q), .agg (nw 9 (pN k))]) ∧ Sl w' p (pN k) ∧ Gr w w') (w : World) :
    Calls Try.prog 8 #[.int .i64 id, .agg (nw 9 a), .agg (nw 9 b)] w fun e w' => e = .returned (.bool true) ∧ Gr w w' := by
  have hB := pN_bd k h1 h2
  have hdl := pN_dl k h1 h2
  have hprm := prm_pN k h1 h2
  obtain ⟨m, hm⟩ : ∃ m, pN k = m := ⟨_, rfl⟩
  have FA := fun a b ha hb w => fAdd_ok k a b h1 h2 ha hb w
  have FSu := fun a b ha hb w => fSub_ok k a b h1 h2 ha hb w
  have FR := fun W hW w => fReduce_ok k W h1 h2 hW w
  have FM := fun a b ha hb w => fMul_ok k a b h1 h2 ha hb w
  have FI := fun a h0 ha hg => fInv_ok k a h1 h2 h0 ha hg
  have FZ := fun w => fInv_zero k h1 h2 w
  rw [hm] at hB hdl hprm FA FSu FR FM FI HO
  obtain ⟨x, hx⟩ : ∃ x, a % m = x := ⟨_, rfl⟩
  obtain ⟨y, hy⟩ : ∃ y, b % m = y := ⟨_, rfl⟩
  have hxm : x < m := by rw [← hx]; exact Nat.mod_lt _ (by omega)
  have hym : y < m := by rw [← hy]; exact Nat.mod_lt _ (by omega)
  have e1 : eqN 9 x 0 = true := by rw [show x = 0 by rw [← hx, ← hm]; exact hz]; exact eqN_self 9 0
  have B1 : Hid (∀ (p : Option Addr) (n : Nat) (q : Nat → Option Addr × Nat × Nat) w', Sl w' p m → Calls Try.prog 32 #[.agg (cvA k p (dl m) n q), .agg (nw 9 a)] w' fun e w'' => e = .returned (.agg (nw 9 x)) ∧ Gr w' w'') := fun p n q w' h => hx ▸ below_any k m a n p q (by omega) hdl ha w' h
  have B2 : Hid (∀ (p : Option Addr) (n : Nat) (q : Nat → Option Addr × Nat × Nat) w', Sl w' p m → Calls Try.prog 32 #[.agg (cvA k p (dl m) n q), .agg (nw 9 b)] w' fun e w'' => e = .returned (.agg (nw 9 y)) ∧ Gr w' w'') := fun p n q w' h => hy ▸ below_any k m b n p q (by omega) hdl hb w' h
  have HO' : Hid (∀ w, Calls Try.prog 34 #[.int .i64 id] w fun e w' => ∃ p n q, e = .returned (.tuple #[.agg (cvA k p (dl m) n q), .agg (nw 9 m)]) ∧ Sl w' p m ∧ Gr w w') := HO
  clear HO FA FSu FR FM FI FZ hprm hB hdl hm h1 h2 hx hy hxm hym ha hb hz
  go_enter Try.func8, Try.ntmps8
  go_upto_region 3 with (go_at_call 19; refine (awake5_any _).mono ?_; rintro e w' ⟨rfl, gaw, rfl⟩)
  refine gen_w (fun v => Hid (Gr w v ∧ Cl v w.heap.size a ∧ Cl v (w.heap.size + 1) b)) ⟨(by repeat (first | exact Gr.refl _ | apply Gr.drewN | apply Gr.drew | apply Gr.alloc | apply Gr.gro)), ⟨by simp [go_sem], by simp [go_sem], by simp [go_sem]⟩, ⟨by simp [go_sem], by simp [go_sem], by simp [go_sem]⟩⟩ ?_
  intro v0 HV
  go_cut [7, 8] from 21 to 25 (fun a0 a1 wx => ∃ (e7 e8 : Nat) (p : Option Addr) (n : Nat) (q : Nat → Option Addr × Nat × Nat), a0 = .pointer (some ⟨e7, 0, none⟩) ∧ a1 = .pointer (some ⟨e8, 0, none⟩) ∧ Hid (Gr w wx ∧ Cl wx w.heap.size a ∧ Cl wx (w.heap.size + 1) b ∧ Cv wx e7 k p (dl m) n q ∧ Cl wx e8 m ∧ Sl wx p m))
  case first =>
    have ⟨G, c0, c1⟩ := HV.out
    go_wp2_with (go_at_call 34; refine (HO'.out _).mono ?_; rintro e W1 ⟨p, n, q, rfl, S1, G1⟩)
    go_meet
    exact ⟨_, _, p, n, q, rfl, rfl, G.trans (G1.trans (by repeat (first | exact Gr.refl _ | apply Gr.drewN | apply Gr.drew | apply Gr.alloc | apply Gr.gro))), c0.gr (G1.trans (by repeat (first | exact Gr.refl _ | apply Gr.drewN | apply Gr.drew | apply Gr.alloc | apply Gr.gro))), c1.gr (G1.trans (by repeat (first | exact Gr.refl _ | apply Gr.drewN | apply Gr.drew | apply Gr.alloc | apply Gr.gro))), ⟨by simp [go_sem], by simp [go_sem], by simp [go_sem]⟩, ⟨by simp [go_sem], by simp [go_sem], by simp [go_sem]⟩, S1.gr (by repeat (first | exact Gr.refl _ | apply Gr.drewN | apply Gr.drew | apply Gr.alloc | apply Gr.gro))⟩
  clear HV
  obtain ⟨e7, e8, p, n, q, rfl, rfl, HV⟩ := hcut
  go_upto_region 4 with fail
  go_cut [9, 10] from 26 to 31 (fun a0 a1 wx => ∃ e9 e10 : Nat, a0 = .pointer (some ⟨e9, 0, none⟩) ∧ a1 = .pointer (some ⟨e10, 0, none⟩) ∧ Hid (Gr w wx ∧ Cl wx (w.heap.size) a ∧ Cl wx (w.heap.size + 1) b ∧ Cv wx e7 k p (dl m) n q ∧ Cl wx e8 m ∧ Cl wx e9 x ∧ Cl wx e10 y ∧ Sl wx p m))
  case first =>
    have ⟨G, c_w_heap_size, c__w_heap_size_1_, c_e7, c_e8, S_p⟩ := HV.out
    have ⟨hc_w_heap_size, fc_w_heap_size, pc_w_heap_size⟩ := c_w_heap_size
    have ⟨hc__w_heap_size_1_, fc__w_heap_size_1_, pc__w_heap_size_1_⟩ := c__w_heap_size_1_
    have ⟨hc_e7, fc_e7, pc_e7⟩ := c_e7
    have h0c_e7 := (c_e7).at0
    have h1c_e7 := (c_e7).at1
    have ⟨hc_e8, fc_e8, pc_e8⟩ := c_e8
    refine wp_region_mix (by kernel_rfl) (by kernel_rfl) (RG _ (fun i => match i with | 0 => some (.agg (cvA k p (dl m) n q)) | 1 => some (.agg (nw 9 a)) | 2 => some (.agg (nw 9 x)) | 3 => some (.agg (cvA k p (dl m) n q)) | 4 => some (.agg (nw 9 b)) | 5 => some (.agg (nw 9 y)) | _ => none) (fun i => match i with | 6 => some (nw 9 0) | 7 => some (nw 9 0) | _ => none) (fun i => match i with | 6 => some (8, nw 9 x) | 7 => some (9, nw 9 y) | _ => none)) (RG.start _ _ _ _ _ _) ?hs ?hf
    case hs =>
      intro listed vals a1 v1 i o hz hR hF ho hl hd
      have hks : ∀ (j k : Nat) (r : Array Value), (match j with | 6 => some (8, nw 9 x) | 7 => some (9, nw 9 y) | _ => (none : Option (Nat × Array Value))) = some (k, r) → (j = 6 ∧ k = 8) ∨ (j = 7 ∧ k = 9) := fun j k r h => by
        split at h <;> simp_all
      have Hc_w_heap_size : blk v1 (w.heap.size) = nw 9 a := (blk_of _ _ _ (hR.1.below.block (w.heap.size) (c_w_heap_size.p))).trans (c_w_heap_size.h)
      have Hc__w_heap_size_1_ : blk v1 ((w.heap.size + 1)) = nw 9 b := (blk_of _ _ _ (hR.1.below.block ((w.heap.size + 1)) (c__w_heap_size_1_.p))).trans (c__w_heap_size_1_.h)
      have Hc_e7 : blk v1 (e7) = cvA k p (dl m) n q := (blk_of _ _ _ (hR.1.below.block (e7) (c_e7.p))).trans (c_e7.h)
      have Hc_e8 : blk v1 (e8) = nw 9 m := (blk_of _ _ _ (hR.1.below.block (e8) (c_e8.p))).trans (c_e8.h)
      have hi : i < 10 := by simpa using (Array.getElem?_eq_some_iff.1 ho).1
      have hil : i < listed.size := by rw [hz]; simpa using hi
      obtain rfl | rfl | rfl | rfl | rfl | rfl | rfl | rfl | rfl | rfl : i = 0 ∨ i = 1 ∨ i = 2 ∨ i = 3 ∨ i = 4 ∨ i = 5 ∨ i = 6 ∨ i = 7 ∨ i = 8 ∨ i = 9 := by omega
      · obtain rfl := Option.some.inj ho
        have f0 := hF.old (s := 7) (v := .pointer (some ⟨e7, 0, none⟩)) (by kernel_rfl) rfl
        exact wp_val (.agg (cvA k p (dl m) n q)) (by simp [go_sem, f0, Hc_e7]) ⟨_, rfl, RG.quiet 0 _ hil rfl rfl (fun j k r h => by have := hks j k r h; omega) (Gr.refl _) hR⟩
      · obtain rfl := Option.some.inj ho
        have f0 := hF.old (s := 4) (v := .pointer (some ⟨w.heap.size, 0, none⟩)) (by kernel_rfl) rfl
        exact wp_val (.agg (nw 9 a)) (by simp [go_sem, f0, Hc_w_heap_size]) ⟨_, rfl, RG.quiet 1 _ hil rfl rfl (fun j k r h => by have := hks j k r h; omega) (Gr.refl _) hR⟩
      · obtain rfl := Option.some.inj ho
        have l0 := hd ⟨0, .data⟩ (by simp) rfl
        have f0 := hF.at (s := 26) (i := 0) (by kernel_rfl) (by simp) l0
        rw [hR.2.1 0 _ l0 rfl] at f0
        have l1 := hd ⟨1, .data⟩ (by simp) rfl
        have f1 := hF.at (s := 27) (i := 1) (by kernel_rfl) (by simp) l1
        rw [hR.2.1 1 _ l1 rfl] at f1
        exact wp_ret (.agg (nw 9 x)) (by simp [go_sem, f0, f1]) (B1.out p n q _ (S_p.gr hR.1)) (fun w2 hg => ⟨_, rfl, RG.quiet 2 _ hil rfl rfl (fun j k r h => by have := hks j k r h; omega) hg hR⟩)
      · obtain rfl := Option.some.inj ho
        have f0 := hF.old (s := 7) (v := .pointer (some ⟨e7, 0, none⟩)) (by kernel_rfl) rfl
        exact wp_val (.agg (cvA k p (dl m) n q)) (by simp [go_sem, f0, Hc_e7]) ⟨_, rfl, RG.quiet 3 _ hil rfl rfl (fun j k r h => by have := hks j k r h; omega) (Gr.refl _) hR⟩
      · obtain rfl := Option.some.inj ho
        have f0 := hF.old (s := 5) (v := .pointer (some ⟨(w.heap.size + 1), 0, none⟩)) (by kernel_rfl) rfl
        exact wp_val (.agg (nw 9 b)) (by simp [go_sem, f0, Hc__w_heap_size_1_]) ⟨_, rfl, RG.quiet 4 _ hil rfl rfl (fun j k r h => by have := hks j k r h; omega) (Gr.refl _) hR⟩
      · obtain rfl := Option.some.inj ho
        have l0 := hd ⟨3, .data⟩ (by simp) rfl
        have f0 := hF.at (s := 29) (i := 3) (by kernel_rfl) (by simp) l0
        rw [hR.2.1 3 _ l0 rfl] at f0
        have l1 := hd ⟨4, .data⟩ (by simp) rfl
        have f1 := hF.at (s := 30) (i := 4) (by kernel_rfl) (by simp) l1
        rw [hR.2.1 4 _ l1 rfl] at f1
        exact wp_ret (.agg (nw 9 y)) (by simp [go_sem, f0, f1]) (B2.out p n q _ (S_p.gr hR.1)) (fun w2 hg => ⟨_, rfl, RG.quiet 5 _ hil rfl rfl (fun j k r h => by have := hks j k r h; omega) hg hR⟩)
      · obtain rfl := Option.some.inj ho
        exact wp_val (.pointer (some ⟨v1.heap.size, 0, none⟩)) (w' := v1.alloc (.cells (nw 9 0) 25)) (by simp [go_sem]) ⟨_, rfl, RG.alloc 6 (nw 9 0) 25 hil hl rfl rfl (fun j k r h => by have := hks j k r h; omega) hR⟩
      · obtain rfl := Option.some.inj ho
        exact wp_val (.pointer (some ⟨v1.heap.size, 0, none⟩)) (w' := v1.alloc (.cells (nw 9 0) 25)) (by simp [go_sem]) ⟨_, rfl, RG.alloc 7 (nw 9 0) 25 hil hl rfl rfl (fun j k r h => by have := hks j k r h; omega) hR⟩
      · obtain rfl := Option.some.inj ho
        have l0 := hd ⟨6, .data⟩ (by simp) rfl
        have l1 := hd ⟨2, .data⟩ (by simp) rfl
        obtain ⟨B, h4, h5⟩ := hR.2.2.2
        obtain ⟨e1, e2, e3, e4, e5⟩ := h4 6 (nw 9 0) l0 rfl
        simp only [hl] at e5
        replace e5 : blk v1 (B 6) = nw 9 0 := e5
        have f0 := hF.at (s := 9) (i := 6) (by kernel_rfl) (by simp) l0
        rw [e1] at f0
        have f1 := hF.at (s := 28) (i := 2) (by kernel_rfl) (by simp) l1
        rw [hR.2.1 2 _ l1 rfl] at f1
        exact wp_skip (w' := setBlk v1 (B 6) (nw 9 x)) (by simp [go_sem, f0, f1, e4, e5]) ⟨undef, rfl, RG.store 8 6 (nw 9 0) (nw 9 x) (B 6) hil hl rfl rfl rfl l0 rfl (by rw [nw_size]; decide) e1 (fun k r h => by have := hks k _ r h; omega) hR⟩
      · obtain rfl := Option.some.inj ho
        have l0 := hd ⟨7, .data⟩ (by simp) rfl
        have l1 := hd ⟨5, .data⟩ (by simp) rfl
        obtain ⟨B, h4, h5⟩ := hR.2.2.2
        obtain ⟨e1, e2, e3, e4, e5⟩ := h4 7 (nw 9 0) l0 rfl
        simp only [hl] at e5
        replace e5 : blk v1 (B 7) = nw 9 0 := e5
        have f0 := hF.at (s := 10) (i := 7) (by kernel_rfl) (by simp) l0
        rw [e1] at f0
        have f1 := hF.at (s := 31) (i := 5) (by kernel_rfl) (by simp) l1
        rw [hR.2.1 5 _ l1 rfl] at f1
        exact wp_skip (w' := setBlk v1 (B 7) (nw 9 y)) (by simp [go_sem, f0, f1, e4, e5]) ⟨undef, rfl, RG.store 9 7 (nw 9 0) (nw 9 y) (B 7) hil hl rfl rfl rfl l0 rfl (by rw [nw_size]; decide) e1 (fun k r h => by have := hks k _ r h; omega) hR⟩
    case hf =>
      intro listed vals a1 v1 hall hR hF
      have Hc_w_heap_size : blk v1 (w.heap.size) = nw 9 a := (blk_of _ _ _ (hR.1.below.block (w.heap.size) (c_w_heap_size.p))).trans (c_w_heap_size.h)
      have pHc_w_heap_size : Pre (w.heap.size + 1) v1.heap.size := Nat.le_trans (show w.heap.size + 1 ≤ _ from c_w_heap_size.p) hR.1.below.size
      have Hc__w_heap_size_1_ : blk v1 ((w.heap.size + 1)) = nw 9 b := (blk_of _ _ _ (hR.1.below.block ((w.heap.size + 1)) (c__w_heap_size_1_.p))).trans (c__w_heap_size_1_.h)
      have pHc__w_heap_size_1_ : Pre ((w.heap.size + 1) + 1) v1.heap.size := Nat.le_trans (show (w.heap.size + 1) + 1 ≤ _ from c__w_heap_size_1_.p) hR.1.below.size
      have Hc_e7 : blk v1 (e7) = cvA k p (dl m) n q := (blk_of _ _ _ (hR.1.below.block (e7) (c_e7.p))).trans (c_e7.h)
      have pHc_e7 : Pre (e7 + 1) v1.heap.size := Nat.le_trans (show e7 + 1 ≤ _ from c_e7.p) hR.1.below.size
      have Hc_e8 : blk v1 (e8) = nw 9 m := (blk_of _ _ _ (hR.1.below.block (e8) (c_e8.p))).trans (c_e8.h)
      have pHc_e8 : Pre (e8 + 1) v1.heap.size := Nat.le_trans (show e8 + 1 ≤ _ from c_e8.p) hR.1.below.size
      have hV := hR.2.1
      obtain ⟨B, h4, h5⟩ := hR.2.2.2
      have x0 := hV 0 _ (hall 0 (by simp)) rfl
      have x1 := hV 1 _ (hall 1 (by simp)) rfl
      have x2 := hV 2 _ (hall 2 (by simp)) rfl
      have x3 := hV 3 _ (hall 3 (by simp)) rfl
      have x4 := hV 4 _ (hall 4 (by simp)) rfl
      have x5 := hV 5 _ (hall 5 (by simp)) rfl
      obtain ⟨x6, q6, p6, z6, y6⟩ := h4 6 _ (hall 6 (by simp)) rfl
      simp only [hall 8 (by simp), if_true] at y6
      replace p6 : Pre (B 6 + 1) v1.heap.size := p6
      replace y6 : blk v1 (B 6) = nw 9 x := y6
      obtain ⟨x7, q7, p7, z7, y7⟩ := h4 7 _ (hall 7 (by simp)) rfl
      simp only [hall 9 (by simp), if_true] at y7
      replace p7 : Pre (B 7 + 1) v1.heap.size := p7
      replace y7 : blk v1 (B 7) = nw 9 y := y7
      have hb1 := hR.1
      rw [hF.final (by kernel_rfl) hall]
      simp only [putFrom, Act.put, List.setIfInBounds_toArray, List.set_cons_zero, List.set_cons_succ, x0, x1, x2, x3, x4, x5, x6, x7]
      generalize B 6 = b6 at *
      generalize B 7 = b7 at *
      clear hV h4 h5 hR hF hall x0 x1 x2 x3 x4 x5 x6 x7
      go_wp2_with fail
      go_meet
      exact ⟨b6, b7, rfl, rfl, G.trans hb1, c_w_heap_size.gr hb1, c__w_heap_size_1_.gr hb1, c_e7.gr hb1, c_e8.gr hb1, ⟨y6, z6, p6⟩, ⟨y7, z7, p7⟩, S_p.gr hb1⟩
  clear HV
  obtain ⟨e9, e10, rfl, rfl, HV⟩ := hcut
  have ⟨G, c_w_heap_size, c__w_heap_size_1_, c_e7, c_e8, c_e9, c_e10, S_p⟩ := HV.out
  have ⟨hc_w_heap_size, fc_w_heap_size, pc_w_heap_size⟩ := c_w_heap_size
  have ⟨hc__w_heap_size_1_, fc__w_heap_size_1_, pc__w_heap_size_1_⟩ := c__w_heap_size_1_
  have ⟨hc_e7, fc_e7, pc_e7⟩ := c_e7
  have h0c_e7 := (c_e7).at0
  have h1c_e7 := (c_e7).at1
  have ⟨hc_e8, fc_e8, pc_e8⟩ := c_e8
  have ⟨hc_e9, fc_e9, pc_e9⟩ := c_e9
  have ⟨hc_e10, fc_e10, pc_e10⟩ := c_e10
  clear HV
  go_wp2_with fail
  go_ret
  exact ⟨rfl, by repeat (first | exact G | apply Gr.drewN | apply Gr.drew)⟩
set_option maxRecDepth 100000 in
set_option maxHeartbeats 4000000 in
theorem fprod_y0 (id : Int) (k a b : Nat) (h1 : 1 ≤ k) (h2 : k ≤ 15) (ha : a < M) (hb : b < M) (hz : a % pN k ≠ 0 ∧ b % pN k = 0)
    (HO : ∀ w, Calls Try.prog 34 #[.int .i64 id] w fun e w' => ∃ p n q, e = .returned (.tuple #[.agg (cvA k p (dl (pN k)) n q), .agg (nw 9 (pN k))]) ∧ Sl w' p (pN k) ∧ Gr w w') (w : World) :
    Calls Try.prog 8 #[.int .i64 id, .agg (nw 9 a), .agg (nw 9 b)] w fun e w' => e = .returned (.bool true) ∧ Gr w w' := by
  have hB := pN_bd k h1 h2
  have hdl := pN_dl k h1 h2
  have hprm := prm_pN k h1 h2
  obtain ⟨m, hm⟩ : ∃ m, pN k = m := ⟨_, rfl⟩
  have FA := fun a b ha hb w => fAdd_ok k a b h1 h2 ha hb w
  have FSu := fun a b ha hb w => fSub_ok k a b h1 h2 ha hb w
  have FR := fun W hW w => fReduce_ok k W h1 h2 hW w
  have FM := fun a b ha hb w => fMul_ok k a b h1 h2 ha hb w
  have FI := fun a h0 ha hg => fInv_ok k a h1 h2 h0 ha hg
  have FZ := fun w => fInv_zero k h1 h2 w
  rw [hm] at hB hdl hprm FA FSu FR FM FI HO
  obtain ⟨x, hx⟩ : ∃ x, a % m = x := ⟨_, rfl⟩
  obtain ⟨y, hy⟩ : ∃ y, b % m = y := ⟨_, rfl⟩
  have hxm : x < m := by rw [← hx]; exact Nat.mod_lt _ (by omega)
  have hym : y < m := by rw [← hy]; exact Nat.mod_lt _ (by omega)
  have e1 : eqN 9 x 0 = false := eqN_no x 0 (by omega) M_pos (by rw [← hx, ← hm]; exact hz.1)
  have e2 : eqN 9 y 0 = true := by rw [show y = 0 by rw [← hy, ← hm]; exact hz.2]; exact eqN_self 9 0
  have B1 : Hid (∀ (p : Option Addr) (n : Nat) (q : Nat → Option Addr × Nat × Nat) w', Sl w' p m → Calls Try.prog 32 #[.agg (cvA k p (dl m) n q), .agg (nw 9 a)] w' fun e w'' => e = .returned (.agg (nw 9 x)) ∧ Gr w' w'') := fun p n q w' h => hx ▸ below_any k m a n p q (by omega) hdl ha w' h
  have B2 : Hid (∀ (p : Option Addr) (n : Nat) (q : Nat → Option Addr × Nat × Nat) w', Sl w' p m → Calls Try.prog 32 #[.agg (cvA k p (dl m) n q), .agg (nw 9 b)] w' fun e w'' => e = .returned (.agg (nw 9 y)) ∧ Gr w' w'') := fun p n q w' h => hy ▸ below_any k m b n p q (by omega) hdl hb w' h
  have HO' : Hid (∀ w, Calls Try.prog 34 #[.int .i64 id] w fun e w' => ∃ p n q, e = .returned (.tuple #[.agg (cvA k p (dl m) n q), .agg (nw 9 m)]) ∧ Sl w' p m ∧ Gr w w') := HO
  clear HO FA FSu FR FM FI FZ hprm hB hdl hm h1 h2 hx hy hxm hym ha hb hz
  go_enter Try.func8, Try.ntmps8
  go_upto_region 3 with (go_at_call 19; refine (awake5_any _).mono ?_; rintro e w' ⟨rfl, gaw, rfl⟩)
  refine gen_w (fun v => Hid (Gr w v ∧ Cl v w.heap.size a ∧ Cl v (w.heap.size + 1) b)) ⟨(by repeat (first | exact Gr.refl _ | apply Gr.drewN | apply Gr.drew | apply Gr.alloc | apply Gr.gro)), ⟨by simp [go_sem], by simp [go_sem], by simp [go_sem]⟩, ⟨by simp [go_sem], by simp [go_sem], by simp [go_sem]⟩⟩ ?_
  intro v0 HV
  go_cut [7, 8] from 21 to 25 (fun a0 a1 wx => ∃ (e7 e8 : Nat) (p : Option Addr) (n : Nat) (q : Nat → Option Addr × Nat × Nat), a0 = .pointer (some ⟨e7, 0, none⟩) ∧ a1 = .pointer (some ⟨e8, 0, none⟩) ∧ Hid (Gr w wx ∧ Cl wx w.heap.size a ∧ Cl wx (w.heap.size + 1) b ∧ Cv wx e7 k p (dl m) n q ∧ Cl wx e8 m ∧ Sl wx p m))
  case first =>
    have ⟨G, c0, c1⟩ := HV.out
    go_wp2_with (go_at_call 34; refine (HO'.out _).mono ?_; rintro e W1 ⟨p, n, q, rfl, S1, G1⟩)
    go_meet
    exact ⟨_, _, p, n, q, rfl, rfl, G.trans (G1.trans (by repeat (first | exact Gr.refl _ | apply Gr.drewN | apply Gr.drew | apply Gr.alloc | apply Gr.gro))), c0.gr (G1.trans (by repeat (first | exact Gr.refl _ | apply Gr.drewN | apply Gr.drew | apply Gr.alloc | apply Gr.gro))), c1.gr (G1.trans (by repeat (first | exact Gr.refl _ | apply Gr.drewN | apply Gr.drew | apply Gr.alloc | apply Gr.gro))), ⟨by simp [go_sem], by simp [go_sem], by simp [go_sem]⟩, ⟨by simp [go_sem], by simp [go_sem], by simp [go_sem]⟩, S1.gr (by repeat (first | exact Gr.refl _ | apply Gr.drewN | apply Gr.drew | apply Gr.alloc | apply Gr.gro))⟩
  clear HV
  obtain ⟨e7, e8, p, n, q, rfl, rfl, HV⟩ := hcut
  go_upto_region 4 with fail
  go_cut [9, 10] from 26 to 31 (fun a0 a1 wx => ∃ e9 e10 : Nat, a0 = .pointer (some ⟨e9, 0, none⟩) ∧ a1 = .pointer (some ⟨e10, 0, none⟩) ∧ Hid (Gr w wx ∧ Cl wx (w.heap.size) a ∧ Cl wx (w.heap.size + 1) b ∧ Cv wx e7 k p (dl m) n q ∧ Cl wx e8 m ∧ Cl wx e9 x ∧ Cl wx e10 y ∧ Sl wx p m))
  case first =>
    have ⟨G, c_w_heap_size, c__w_heap_size_1_, c_e7, c_e8, S_p⟩ := HV.out
    have ⟨hc_w_heap_size, fc_w_heap_size, pc_w_heap_size⟩ := c_w_heap_size
    have ⟨hc__w_heap_size_1_, fc__w_heap_size_1_, pc__w_heap_size_1_⟩ := c__w_heap_size_1_
    have ⟨hc_e7, fc_e7, pc_e7⟩ := c_e7
    have h0c_e7 := (c_e7).at0
    have h1c_e7 := (c_e7).at1
    have ⟨hc_e8, fc_e8, pc_e8⟩ := c_e8
    refine wp_region_mix (by kernel_rfl) (by kernel_rfl) (RG _ (fun i => match i with | 0 => some (.agg (cvA k p (dl m) n q)) | 1 => some (.agg (nw 9 a)) | 2 => some (.agg (nw 9 x)) | 3 => some (.agg (cvA k p (dl m) n q)) | 4 => some (.agg (nw 9 b)) | 5 => some (.agg (nw 9 y)) | _ => none) (fun i => match i with | 6 => some (nw 9 0) | 7 => some (nw 9 0) | _ => none) (fun i => match i with | 6 => some (8, nw 9 x) | 7 => some (9, nw 9 y) | _ => none)) (RG.start _ _ _ _ _ _) ?hs ?hf
    case hs =>
      intro listed vals a1 v1 i o hz hR hF ho hl hd
      have hks : ∀ (j k : Nat) (r : Array Value), (match j with | 6 => some (8, nw 9 x) | 7 => some (9, nw 9 y) | _ => (none : Option (Nat × Array Value))) = some (k, r) → (j = 6 ∧ k = 8) ∨ (j = 7 ∧ k = 9) := fun j k r h => by
        split at h <;> simp_all
      have Hc_w_heap_size : blk v1 (w.heap.size) = nw 9 a := (blk_of _ _ _ (hR.1.below.block (w.heap.size) (c_w_heap_size.p))).trans (c_w_heap_size.h)
      have Hc__w_heap_size_1_ : blk v1 ((w.heap.size + 1)) = nw 9 b := (blk_of _ _ _ (hR.1.below.block ((w.heap.size + 1)) (c__w_heap_size_1_.p))).trans (c__w_heap_size_1_.h)
      have Hc_e7 : blk v1 (e7) = cvA k p (dl m) n q := (blk_of _ _ _ (hR.1.below.block (e7) (c_e7.p))).trans (c_e7.h)
      have Hc_e8 : blk v1 (e8) = nw 9 m := (blk_of _ _ _ (hR.1.below.block (e8) (c_e8.p))).trans (c_e8.h)
      have hi : i < 10 := by simpa using (Array.getElem?_eq_some_iff.1 ho).1
      have hil : i < listed.size := by rw [hz]; simpa using hi
      obtain rfl | rfl | rfl | rfl | rfl | rfl | rfl | rfl | rfl | rfl : i = 0 ∨ i = 1 ∨ i = 2 ∨ i = 3 ∨ i = 4 ∨ i = 5 ∨ i = 6 ∨ i = 7 ∨ i = 8 ∨ i = 9 := by omega
      · obtain rfl := Option.some.inj ho
        have f0 := hF.old (s := 7) (v := .pointer (some ⟨e7, 0, none⟩)) (by kernel_rfl) rfl
        exact wp_val (.agg (cvA k p (dl m) n q)) (by simp [go_sem, f0, Hc_e7]) ⟨_, rfl, RG.quiet 0 _ hil rfl rfl (fun j k r h => by have := hks j k r h; omega) (Gr.refl _) hR⟩
      · obtain rfl := Option.some.inj ho
        have f0 := hF.old (s := 4) (v := .pointer (some ⟨w.heap.size, 0, none⟩)) (by kernel_rfl) rfl
        exact wp_val (.agg (nw 9 a)) (by simp [go_sem, f0, Hc_w_heap_size]) ⟨_, rfl, RG.quiet 1 _ hil rfl rfl (fun j k r h => by have := hks j k r h; omega) (Gr.refl _) hR⟩
      · obtain rfl := Option.some.inj ho
        have l0 := hd ⟨0, .data⟩ (by simp) rfl
        have f0 := hF.at (s := 26) (i := 0) (by kernel_rfl) (by simp) l0
        rw [hR.2.1 0 _ l0 rfl] at f0
        have l1 := hd ⟨1, .data⟩ (by simp) rfl
        have f1 := hF.at (s := 27) (i := 1) (by kernel_rfl) (by simp) l1
        rw [hR.2.1 1 _ l1 rfl] at f1
        exact wp_ret (.agg (nw 9 x)) (by simp [go_sem, f0, f1]) (B1.out p n q _ (S_p.gr hR.1)) (fun w2 hg => ⟨_, rfl, RG.quiet 2 _ hil rfl rfl (fun j k r h => by have := hks j k r h; omega) hg hR⟩)
      · obtain rfl := Option.some.inj ho
        have f0 := hF.old (s := 7) (v := .pointer (some ⟨e7, 0, none⟩)) (by kernel_rfl) rfl
        exact wp_val (.agg (cvA k p (dl m) n q)) (by simp [go_sem, f0, Hc_e7]) ⟨_, rfl, RG.quiet 3 _ hil rfl rfl (fun j k r h => by have := hks j k r h; omega) (Gr.refl _) hR⟩
      · obtain rfl := Option.some.inj ho
        have f0 := hF.old (s := 5) (v := .pointer (some ⟨(w.heap.size + 1), 0, none⟩)) (by kernel_rfl) rfl
        exact wp_val (.agg (nw 9 b)) (by simp [go_sem, f0, Hc__w_heap_size_1_]) ⟨_, rfl, RG.quiet 4 _ hil rfl rfl (fun j k r h => by have := hks j k r h; omega) (Gr.refl _) hR⟩
      · obtain rfl := Option.some.inj ho
        have l0 := hd ⟨3, .data⟩ (by simp) rfl
        have f0 := hF.at (s := 29) (i := 3) (by kernel_rfl) (by simp) l0
        rw [hR.2.1 3 _ l0 rfl] at f0
        have l1 := hd ⟨4, .data⟩ (by simp) rfl
        have f1 := hF.at (s := 30) (i := 4) (by kernel_rfl) (by simp) l1
        rw [hR.2.1 4 _ l1 rfl] at f1
        exact wp_ret (.agg (nw 9 y)) (by simp [go_sem, f0, f1]) (B2.out p n q _ (S_p.gr hR.1)) (fun w2 hg => ⟨_, rfl, RG.quiet 5 _ hil rfl rfl (fun j k r h => by have := hks j k r h; omega) hg hR⟩)
      · obtain rfl := Option.some.inj ho
        exact wp_val (.pointer (some ⟨v1.heap.size, 0, none⟩)) (w' := v1.alloc (.cells (nw 9 0) 25)) (by simp [go_sem]) ⟨_, rfl, RG.alloc 6 (nw 9 0) 25 hil hl rfl rfl (fun j k r h => by have := hks j k r h; omega) hR⟩
      · obtain rfl := Option.some.inj ho
        exact wp_val (.pointer (some ⟨v1.heap.size, 0, none⟩)) (w' := v1.alloc (.cells (nw 9 0) 25)) (by simp [go_sem]) ⟨_, rfl, RG.alloc 7 (nw 9 0) 25 hil hl rfl rfl (fun j k r h => by have := hks j k r h; omega) hR⟩
      · obtain rfl := Option.some.inj ho
        have l0 := hd ⟨6, .data⟩ (by simp) rfl
        have l1 := hd ⟨2, .data⟩ (by simp) rfl
        obtain ⟨B, h4, h5⟩ := hR.2.2.2
        obtain ⟨e1, e2, e3, e4, e5⟩ := h4 6 (nw 9 0) l0 rfl
        simp only [hl] at e5
        replace e5 : blk v1 (B 6) = nw 9 0 := e5
        have f0 := hF.at (s := 9) (i := 6) (by kernel_rfl) (by simp) l0
        rw [e1] at f0
        have f1 := hF.at (s := 28) (i := 2) (by kernel_rfl) (by simp) l1
        rw [hR.2.1 2 _ l1 rfl] at f1
        exact wp_skip (w' := setBlk v1 (B 6) (nw 9 x)) (by simp [go_sem, f0, f1, e4, e5]) ⟨undef, rfl, RG.store 8 6 (nw 9 0) (nw 9 x) (B 6) hil hl rfl rfl rfl l0 rfl (by rw [nw_size]; decide) e1 (fun k r h => by have := hks k _ r h; omega) hR⟩
      · obtain rfl := Option.some.inj ho
        have l0 := hd ⟨7, .data⟩ (by simp) rfl
        have l1 := hd ⟨5, .data⟩ (by simp) rfl
        obtain ⟨B, h4, h5⟩ := hR.2.2.2
        obtain ⟨e1, e2, e3, e4, e5⟩ := h4 7 (nw 9 0) l0 rfl
        simp only [hl] at e5
        replace e5 : blk v1 (B 7) = nw 9 0 := e5
        have f0 := hF.at (s := 10) (i := 7) (by kernel_rfl) (by simp) l0
        rw [e1] at f0
        have f1 := hF.at (s := 31) (i := 5) (by kernel_rfl) (by simp) l1
        rw [hR.2.1 5 _ l1 rfl] at f1
        exact wp_skip (w' := setBlk v1 (B 7) (nw 9 y)) (by simp [go_sem, f0, f1, e4, e5]) ⟨undef, rfl, RG.store 9 7 (nw 9 0) (nw 9 y) (B 7) hil hl rfl rfl rfl l0 rfl (by rw [nw_size]; decide) e1 (fun k r h => by have := hks k _ r h; omega) hR⟩
    case hf =>
      intro listed vals a1 v1 hall hR hF
      have Hc_w_heap_size : blk v1 (w.heap.size) = nw 9 a := (blk_of _ _ _ (hR.1.below.block (w.heap.size) (c_w_heap_size.p))).trans (c_w_heap_size.h)
      have pHc_w_heap_size : Pre (w.heap.size + 1) v1.heap.size := Nat.le_trans (show w.heap.size + 1 ≤ _ from c_w_heap_size.p) hR.1.below.size
      have Hc__w_heap_size_1_ : blk v1 ((w.heap.size + 1)) = nw 9 b := (blk_of _ _ _ (hR.1.below.block ((w.heap.size + 1)) (c__w_heap_size_1_.p))).trans (c__w_heap_size_1_.h)
      have pHc__w_heap_size_1_ : Pre ((w.heap.size + 1) + 1) v1.heap.size := Nat.le_trans (show (w.heap.size + 1) + 1 ≤ _ from c__w_heap_size_1_.p) hR.1.below.size
      have Hc_e7 : blk v1 (e7) = cvA k p (dl m) n q := (blk_of _ _ _ (hR.1.below.block (e7) (c_e7.p))).trans (c_e7.h)
      have pHc_e7 : Pre (e7 + 1) v1.heap.size := Nat.le_trans (show e7 + 1 ≤ _ from c_e7.p) hR.1.below.size
      have Hc_e8 : blk v1 (e8) = nw 9 m := (blk_of _ _ _ (hR.1.below.block (e8) (c_e8.p))).trans (c_e8.h)
      have pHc_e8 : Pre (e8 + 1) v1.heap.size := Nat.le_trans (show e8 + 1 ≤ _ from c_e8.p) hR.1.below.size
      have hV := hR.2.1
      obtain ⟨B, h4, h5⟩ := hR.2.2.2
      have x0 := hV 0 _ (hall 0 (by simp)) rfl
      have x1 := hV 1 _ (hall 1 (by simp)) rfl
      have x2 := hV 2 _ (hall 2 (by simp)) rfl
      have x3 := hV 3 _ (hall 3 (by simp)) rfl
      have x4 := hV 4 _ (hall 4 (by simp)) rfl
      have x5 := hV 5 _ (hall 5 (by simp)) rfl
      obtain ⟨x6, q6, p6, z6, y6⟩ := h4 6 _ (hall 6 (by simp)) rfl
      simp only [hall 8 (by simp), if_true] at y6
      replace p6 : Pre (B 6 + 1) v1.heap.size := p6
      replace y6 : blk v1 (B 6) = nw 9 x := y6
      obtain ⟨x7, q7, p7, z7, y7⟩ := h4 7 _ (hall 7 (by simp)) rfl
      simp only [hall 9 (by simp), if_true] at y7
      replace p7 : Pre (B 7 + 1) v1.heap.size := p7
      replace y7 : blk v1 (B 7) = nw 9 y := y7
      have hb1 := hR.1
      rw [hF.final (by kernel_rfl) hall]
      simp only [putFrom, Act.put, List.setIfInBounds_toArray, List.set_cons_zero, List.set_cons_succ, x0, x1, x2, x3, x4, x5, x6, x7]
      generalize B 6 = b6 at *
      generalize B 7 = b7 at *
      clear hV h4 h5 hR hF hall x0 x1 x2 x3 x4 x5 x6 x7
      go_wp2_with fail
      go_meet
      exact ⟨b6, b7, rfl, rfl, G.trans hb1, c_w_heap_size.gr hb1, c__w_heap_size_1_.gr hb1, c_e7.gr hb1, c_e8.gr hb1, ⟨y6, z6, p6⟩, ⟨y7, z7, p7⟩, S_p.gr hb1⟩
  clear HV
  obtain ⟨e9, e10, rfl, rfl, HV⟩ := hcut
  have ⟨G, c_w_heap_size, c__w_heap_size_1_, c_e7, c_e8, c_e9, c_e10, S_p⟩ := HV.out
  have ⟨hc_w_heap_size, fc_w_heap_size, pc_w_heap_size⟩ := c_w_heap_size
  have ⟨hc__w_heap_size_1_, fc__w_heap_size_1_, pc__w_heap_size_1_⟩ := c__w_heap_size_1_
  have ⟨hc_e7, fc_e7, pc_e7⟩ := c_e7
  have h0c_e7 := (c_e7).at0
  have h1c_e7 := (c_e7).at1
  have ⟨hc_e8, fc_e8, pc_e8⟩ := c_e8
  have ⟨hc_e9, fc_e9, pc_e9⟩ := c_e9
  have ⟨hc_e10, fc_e10, pc_e10⟩ := c_e10
  clear HV
  go_wp2_with fail
  go_ret
  exact ⟨rfl, by repeat (first | exact G | apply Gr.drewN | apply Gr.drew)⟩
set_option maxRecDepth 100000 in
set_option maxHeartbeats 4000000 in
theorem fprod_0 (id : Int) (k a b : Nat) (h1 : 1 ≤ k) (h2 : k ≤ 15) (ha : a < M) (hb : b < M) (hz : a % pN k ≠ 0 ∧ b % pN k ≠ 0) (q1 : sqE k (a % pN k) = 0) (q2 : sqE k (b % pN k) = 0) (q3 : sqE k (a % pN k * (b % pN k) % pN k) = 0)
    (HO : ∀ w, Calls Try.prog 34 #[.int .i64 id] w fun e w' => ∃ p n q, e = .returned (.tuple #[.agg (cvA k p (dl (pN k)) n q), .agg (nw 9 (pN k))]) ∧ Sl w' p (pN k) ∧ Gr w w') (w : World) :
    Calls Try.prog 8 #[.int .i64 id, .agg (nw 9 a), .agg (nw 9 b)] w fun e w' => e = .returned (.bool true) ∧ Gr w w' := by
  have hB := pN_bd k h1 h2
  have hdl := pN_dl k h1 h2
  have hprm := prm_pN k h1 h2
  obtain ⟨m, hm⟩ : ∃ m, pN k = m := ⟨_, rfl⟩
  have FA := fun a b ha hb w => fAdd_ok k a b h1 h2 ha hb w
  have FSu := fun a b ha hb w => fSub_ok k a b h1 h2 ha hb w
  have FR := fun W hW w => fReduce_ok k W h1 h2 hW w
  have FM := fun a b ha hb w => fMul_ok k a b h1 h2 ha hb w
  have FI := fun a h0 ha hg => fInv_ok k a h1 h2 h0 ha hg
  have FZ := fun w => fInv_zero k h1 h2 w
  rw [hm] at hB hdl hprm FA FSu FR FM FI HO
  obtain ⟨x, hx⟩ : ∃ x, a % m = x := ⟨_, rfl⟩
  obtain ⟨y, hy⟩ : ∃ y, b % m = y := ⟨_, rfl⟩
  have hxm : x < m := by rw [← hx]; exact Nat.mod_lt _ (by omega)
  have hym : y < m := by rw [← hy]; exact Nat.mod_lt _ (by omega)
  have FQ1 := fun a ha w => fSqrt_ok k a h1 h2 ha w
  rw [hm] at FQ1
  obtain ⟨t, ht⟩ : ∃ t, x * y % m = t := ⟨_, rfl⟩
  have htm : t < m := by rw [← ht]; exact Nat.mod_lt _ (by omega)
  rw [hm, hx] at q1
  rw [hm, hy] at q2
  rw [hm, hx, hy, ht] at q3
  rw [hm, hx, hy] at hz
  have e1 : eqN 9 x 0 = false := eqN_no x 0 (by omega) M_pos hz.1
  have e2 : eqN 9 y 0 = false := eqN_no y 0 (by omega) M_pos hz.2
  obtain ⟨f, hf⟩ : ∃ f, sqR k x = f := ⟨_, rfl⟩
  obtain ⟨g, hgg⟩ : ∃ f, sqR k y = f := ⟨_, rfl⟩
  obtain ⟨r, hr⟩ : ∃ f, sqR k t = f := ⟨_, rfl⟩
  have B1 : Hid (∀ (p : Option Addr) (n : Nat) (q : Nat → Option Addr × Nat × Nat) w', Sl w' p m → Calls Try.prog 32 #[.agg (cvA k p (dl m) n q), .agg (nw 9 a)] w' fun e w'' => e = .returned (.agg (nw 9 x)) ∧ Gr w' w'') := fun p n q w' h => hx ▸ below_any k m a n p q (by omega) hdl ha w' h
  have B2 : Hid (∀ (p : Option Addr) (n : Nat) (q : Nat → Option Addr × Nat × Nat) w', Sl w' p m → Calls Try.prog 32 #[.agg (cvA k p (dl m) n q), .agg (nw 9 b)] w' fun e w'' => e = .returned (.agg (nw 9 y)) ∧ Gr w' w'') := fun p n q w' h => hy ▸ below_any k m b n p q (by omega) hdl hb w' h
  have M1 : Hid (∀ w', Calls Try.prog 16 #[.int .i64 k, .agg (nw 9 x), .agg (nw 9 y)] w' fun e w'' => e = .returned (.tuple #[.agg (nw 9 t), .int .i64 0]) ∧ Gr w' w'') := fun w => ht ▸ FM x y hxm hym w
  have S1 : Hid (∀ w', Calls Try.prog 29 #[.int .i64 k, .agg (nw 9 x)] w' fun e w'' => e = .returned (.tuple #[.agg (nw 9 f), .int .i64 0]) ∧ Gr w' w'') := fun w => by
    have := FQ1 x hxm w
    rw [hf, q1] at this
    exact this
  have S2 : Hid (∀ w', Calls Try.prog 29 #[.int .i64 k, .agg (nw 9 y)] w' fun e w'' => e = .returned (.tuple #[.agg (nw 9 g), .int .i64 0]) ∧ Gr w' w'') := fun w => by
    have := FQ1 y hym w
    rw [hgg, q2] at this
    exact this
  have S3 : Hid (∀ w', Calls Try.prog 29 #[.int .i64 k, .agg (nw 9 t)] w' fun e w'' => e = .returned (.tuple #[.agg (nw 9 r), .int .i64 0]) ∧ Gr w' w'') := fun w => by
    have := FQ1 t htm w
    rw [hr, q3] at this
    exact this
  have HO' : Hid (∀ w, Calls Try.prog 34 #[.int .i64 id] w fun e w' => ∃ p n q, e = .returned (.tuple #[.agg (cvA k p (dl m) n q), .agg (nw 9 m)]) ∧ Sl w' p m ∧ Gr w w') := HO
  clear HO FA FSu FR FM FI FZ hprm hB hdl hm h1 h2 hx hy hxm hym ha hb hz FQ1 ht htm q1 q2 q3 hf hgg hr
  go_enter Try.func8, Try.ntmps8
  go_upto_region 3 with (go_at_call 19; refine (awake5_any _).mono ?_; rintro e w' ⟨rfl, gaw, rfl⟩)
  refine gen_w (fun v => Hid (Gr w v ∧ Cl v w.heap.size a ∧ Cl v (w.heap.size + 1) b)) ⟨(by repeat (first | exact Gr.refl _ | apply Gr.drewN | apply Gr.drew | apply Gr.alloc | apply Gr.gro)), ⟨by simp [go_sem], by simp [go_sem], by simp [go_sem]⟩, ⟨by simp [go_sem], by simp [go_sem], by simp [go_sem]⟩⟩ ?_
  intro v0 HV
  go_cut [7, 8] from 21 to 25 (fun a0 a1 wx => ∃ (e7 e8 : Nat) (p : Option Addr) (n : Nat) (q : Nat → Option Addr × Nat × Nat), a0 = .pointer (some ⟨e7, 0, none⟩) ∧ a1 = .pointer (some ⟨e8, 0, none⟩) ∧ Hid (Gr w wx ∧ Cl wx w.heap.size a ∧ Cl wx (w.heap.size + 1) b ∧ Cv wx e7 k p (dl m) n q ∧ Cl wx e8 m ∧ Sl wx p m))
  case first =>
    have ⟨G, c0, c1⟩ := HV.out
    go_wp2_with (go_at_call 34; refine (HO'.out _).mono ?_; rintro e W1 ⟨p, n, q, rfl, S1, G1⟩)
    go_meet
    exact ⟨_, _, p, n, q, rfl, rfl, G.trans (G1.trans (by repeat (first | exact Gr.refl _ | apply Gr.drewN | apply Gr.drew | apply Gr.alloc | apply Gr.gro))), c0.gr (G1.trans (by repeat (first | exact Gr.refl _ | apply Gr.drewN | apply Gr.drew | apply Gr.alloc | apply Gr.gro))), c1.gr (G1.trans (by repeat (first | exact Gr.refl _ | apply Gr.drewN | apply Gr.drew | apply Gr.alloc | apply Gr.gro))), ⟨by simp [go_sem], by simp [go_sem], by simp [go_sem]⟩, ⟨by simp [go_sem], by simp [go_sem], by simp [go_sem]⟩, S1.gr (by repeat (first | exact Gr.refl _ | apply Gr.drewN | apply Gr.drew | apply Gr.alloc | apply Gr.gro))⟩
  clear HV
  obtain ⟨e7, e8, p, n, q, rfl, rfl, HV⟩ := hcut
  go_upto_region 4 with fail
  go_cut [9, 10] from 26 to 31 (fun a0 a1 wx => ∃ e9 e10 : Nat, a0 = .pointer (some ⟨e9, 0, none⟩) ∧ a1 = .pointer (some ⟨e10, 0, none⟩) ∧ Hid (Gr w wx ∧ Cl wx (w.heap.size) a ∧ Cl wx (w.heap.size + 1) b ∧ Cv wx e7 k p (dl m) n q ∧ Cl wx e8 m ∧ Cl wx e9 x ∧ Cl wx e10 y ∧ Sl wx p m))
  case first =>
    have ⟨G, c_w_heap_size, c__w_heap_size_1_, c_e7, c_e8, S_p⟩ := HV.out
    have ⟨hc_w_heap_size, fc_w_heap_size, pc_w_heap_size⟩ := c_w_heap_size
    have ⟨hc__w_heap_size_1_, fc__w_heap_size_1_, pc__w_heap_size_1_⟩ := c__w_heap_size_1_
    have ⟨hc_e7, fc_e7, pc_e7⟩ := c_e7
    have h0c_e7 := (c_e7).at0
    have h1c_e7 := (c_e7).at1
    have ⟨hc_e8, fc_e8, pc_e8⟩ := c_e8
    refine wp_region_mix (by kernel_rfl) (by kernel_rfl) (RG _ (fun i => match i with | 0 => some (.agg (cvA k p (dl m) n q)) | 1 => some (.agg (nw 9 a)) | 2 => some (.agg (nw 9 x)) | 3 => some (.agg (cvA k p (dl m) n q)) | 4 => some (.agg (nw 9 b)) | 5 => some (.agg (nw 9 y)) | _ => none) (fun i => match i with | 6 => some (nw 9 0) | 7 => some (nw 9 0) | _ => none) (fun i => match i with | 6 => some (8, nw 9 x) | 7 => some (9, nw 9 y) | _ => none)) (RG.start _ _ _ _ _ _) ?hs ?hf
    case hs =>
      intro listed vals a1 v1 i o hz hR hF ho hl hd
      have hks : ∀ (j k : Nat) (r : Array Value), (match j with | 6 => some (8, nw 9 x) | 7 => some (9, nw 9 y) | _ => (none : Option (Nat × Array Value))) = some (k, r) → (j = 6 ∧ k = 8) ∨ (j = 7 ∧ k = 9) := fun j k r h => by
        split at h <;> simp_all
      have Hc_w_heap_size : blk v1 (w.heap.size) = nw 9 a := (blk_of _ _ _ (hR.1.below.block (w.heap.size) (c_w_heap_size.p))).trans (c_w_heap_size.h)
      have Hc__w_heap_size_1_ : blk v1 ((w.heap.size + 1)) = nw 9 b := (blk_of _ _ _ (hR.1.below.block ((w.heap.size + 1)) (c__w_heap_size_1_.p))).trans (c__w_heap_size_1_.h)
      have Hc_e7 : blk v1 (e7) = cvA k p (dl m) n q := (blk_of _ _ _ (hR.1.below.block (e7) (c_e7.p))).trans (c_e7.h)
      have Hc_e8 : blk v1 (e8) = nw 9 m := (blk_of _ _ _ (hR.1.below.block (e8) (c_e8.p))).trans (c_e8.h)
      have hi : i < 10 := by simpa using (Array.getElem?_eq_some_iff.1 ho).1
      have hil : i < listed.size := by rw [hz]; simpa using hi
      obtain rfl | rfl | rfl | rfl | rfl | rfl | rfl | rfl | rfl | rfl : i = 0 ∨ i = 1 ∨ i = 2 ∨ i = 3 ∨ i = 4 ∨ i = 5 ∨ i = 6 ∨ i = 7 ∨ i = 8 ∨ i = 9 := by omega
      · obtain rfl := Option.some.inj ho
        have f0 := hF.old (s := 7) (v := .pointer (some ⟨e7, 0, none⟩)) (by kernel_rfl) rfl
        exact wp_val (.agg (cvA k p (dl m) n q)) (by simp [go_sem, f0, Hc_e7]) ⟨_, rfl, RG.quiet 0 _ hil rfl rfl (fun j k r h => by have := hks j k r h; omega) (Gr.refl _) hR⟩
      · obtain rfl := Option.some.inj ho
        have f0 := hF.old (s := 4) (v := .pointer (some ⟨w.heap.size, 0, none⟩)) (by kernel_rfl) rfl
        exact wp_val (.agg (nw 9 a)) (by simp [go_sem, f0, Hc_w_heap_size]) ⟨_, rfl, RG.quiet 1 _ hil rfl rfl (fun j k r h => by have := hks j k r h; omega) (Gr.refl _) hR⟩
      · obtain rfl := Option.some.inj ho
        have l0 := hd ⟨0, .data⟩ (by simp) rfl
        have f0 := hF.at (s := 26) (i := 0) (by kernel_rfl) (by simp) l0
        rw [hR.2.1 0 _ l0 rfl] at f0
        have l1 := hd ⟨1, .data⟩ (by simp) rfl
        have f1 := hF.at (s := 27) (i := 1) (by kernel_rfl) (by simp) l1
        rw [hR.2.1 1 _ l1 rfl] at f1
        exact wp_ret (.agg (nw 9 x)) (by simp [go_sem, f0, f1]) (B1.out p n q _ (S_p.gr hR.1)) (fun w2 hg => ⟨_, rfl, RG.quiet 2 _ hil rfl rfl (fun j k r h => by have := hks j k r h; omega) hg hR⟩)
      · obtain rfl := Option.some.inj ho
        have f0 := hF.old (s := 7) (v := .pointer (some ⟨e7, 0, none⟩)) (by kernel_rfl) rfl
        exact wp_val (.agg (cvA k p (dl m) n q)) (by simp [go_sem, f0, Hc_e7]) ⟨_, rfl, RG.quiet 3 _ hil rfl rfl (fun j k r h => by have := hks j k r h; omega) (Gr.refl _) hR⟩
      · obtain rfl := Option.some.inj ho
        have f0 := hF.old (s := 5) (v := .pointer (some ⟨(w.heap.size + 1), 0, none⟩)) (by kernel_rfl) rfl
        exact wp_val (.agg (nw 9 b)) (by simp [go_sem, f0, Hc__w_heap_size_1_]) ⟨_, rfl, RG.quiet 4 _ hil rfl rfl (fun j k r h => by have := hks j k r h; omega) (Gr.refl _) hR⟩
      · obtain rfl := Option.some.inj ho
        have l0 := hd ⟨3, .data⟩ (by simp) rfl
        have f0 := hF.at (s := 29) (i := 3) (by kernel_rfl) (by simp) l0
        rw [hR.2.1 3 _ l0 rfl] at f0
        have l1 := hd ⟨4, .data⟩ (by simp) rfl
        have f1 := hF.at (s := 30) (i := 4) (by kernel_rfl) (by simp) l1
        rw [hR.2.1 4 _ l1 rfl] at f1
        exact wp_ret (.agg (nw 9 y)) (by simp [go_sem, f0, f1]) (B2.out p n q _ (S_p.gr hR.1)) (fun w2 hg => ⟨_, rfl, RG.quiet 5 _ hil rfl rfl (fun j k r h => by have := hks j k r h; omega) hg hR⟩)
      · obtain rfl := Option.some.inj ho
        exact wp_val (.pointer (some ⟨v1.heap.size, 0, none⟩)) (w' := v1.alloc (.cells (nw 9 0) 25)) (by simp [go_sem]) ⟨_, rfl, RG.alloc 6 (nw 9 0) 25 hil hl rfl rfl (fun j k r h => by have := hks j k r h; omega) hR⟩
      · obtain rfl := Option.some.inj ho
        exact wp_val (.pointer (some ⟨v1.heap.size, 0, none⟩)) (w' := v1.alloc (.cells (nw 9 0) 25)) (by simp [go_sem]) ⟨_, rfl, RG.alloc 7 (nw 9 0) 25 hil hl rfl rfl (fun j k r h => by have := hks j k r h; omega) hR⟩
      · obtain rfl := Option.some.inj ho
        have l0 := hd ⟨6, .data⟩ (by simp) rfl
        have l1 := hd ⟨2, .data⟩ (by simp) rfl
        obtain ⟨B, h4, h5⟩ := hR.2.2.2
        obtain ⟨e1, e2, e3, e4, e5⟩ := h4 6 (nw 9 0) l0 rfl
        simp only [hl] at e5
        replace e5 : blk v1 (B 6) = nw 9 0 := e5
        have f0 := hF.at (s := 9) (i := 6) (by kernel_rfl) (by simp) l0
        rw [e1] at f0
        have f1 := hF.at (s := 28) (i := 2) (by kernel_rfl) (by simp) l1
        rw [hR.2.1 2 _ l1 rfl] at f1
        exact wp_skip (w' := setBlk v1 (B 6) (nw 9 x)) (by simp [go_sem, f0, f1, e4, e5]) ⟨undef, rfl, RG.store 8 6 (nw 9 0) (nw 9 x) (B 6) hil hl rfl rfl rfl l0 rfl (by rw [nw_size]; decide) e1 (fun k r h => by have := hks k _ r h; omega) hR⟩
      · obtain rfl := Option.some.inj ho
        have l0 := hd ⟨7, .data⟩ (by simp) rfl
        have l1 := hd ⟨5, .data⟩ (by simp) rfl
        obtain ⟨B, h4, h5⟩ := hR.2.2.2
        obtain ⟨e1, e2, e3, e4, e5⟩ := h4 7 (nw 9 0) l0 rfl
        simp only [hl] at e5
        replace e5 : blk v1 (B 7) = nw 9 0 := e5
        have f0 := hF.at (s := 10) (i := 7) (by kernel_rfl) (by simp) l0
        rw [e1] at f0
        have f1 := hF.at (s := 31) (i := 5) (by kernel_rfl) (by simp) l1
        rw [hR.2.1 5 _ l1 rfl] at f1
        exact wp_skip (w' := setBlk v1 (B 7) (nw 9 y)) (by simp [go_sem, f0, f1, e4, e5]) ⟨undef, rfl, RG.store 9 7 (nw 9 0) (nw 9 y) (B 7) hil hl rfl rfl rfl l0 rfl (by rw [nw_size]; decide) e1 (fun k r h => by have := hks k _ r h; omega) hR⟩
    case hf =>
      intro listed vals a1 v1 hall hR hF
      have Hc_w_heap_size : blk v1 (w.heap.size) = nw 9 a := (blk_of _ _ _ (hR.1.below.block (w.heap.size) (c_w_heap_size.p))).trans (c_w_heap_size.h)
      have pHc_w_heap_size : Pre (w.heap.size + 1) v1.heap.size := Nat.le_trans (show w.heap.size + 1 ≤ _ from c_w_heap_size.p) hR.1.below.size
      have Hc__w_heap_size_1_ : blk v1 ((w.heap.size + 1)) = nw 9 b := (blk_of _ _ _ (hR.1.below.block ((w.heap.size + 1)) (c__w_heap_size_1_.p))).trans (c__w_heap_size_1_.h)
      have pHc__w_heap_size_1_ : Pre ((w.heap.size + 1) + 1) v1.heap.size := Nat.le_trans (show (w.heap.size + 1) + 1 ≤ _ from c__w_heap_size_1_.p) hR.1.below.size
      have Hc_e7 : blk v1 (e7) = cvA k p (dl m) n q := (blk_of _ _ _ (hR.1.below.block (e7) (c_e7.p))).trans (c_e7.h)
      have pHc_e7 : Pre (e7 + 1) v1.heap.size := Nat.le_trans (show e7 + 1 ≤ _ from c_e7.p) hR.1.below.size
      have Hc_e8 : blk v1 (e8) = nw 9 m := (blk_of _ _ _ (hR.1.below.block (e8) (c_e8.p))).trans (c_e8.h)
      have pHc_e8 : Pre (e8 + 1) v1.heap.size := Nat.le_trans (show e8 + 1 ≤ _ from c_e8.p) hR.1.below.size
      have hV := hR.2.1
      obtain ⟨B, h4, h5⟩ := hR.2.2.2
      have x0 := hV 0 _ (hall 0 (by simp)) rfl
      have x1 := hV 1 _ (hall 1 (by simp)) rfl
      have x2 := hV 2 _ (hall 2 (by simp)) rfl
      have x3 := hV 3 _ (hall 3 (by simp)) rfl
      have x4 := hV 4 _ (hall 4 (by simp)) rfl
      have x5 := hV 5 _ (hall 5 (by simp)) rfl
      obtain ⟨x6, q6, p6, z6, y6⟩ := h4 6 _ (hall 6 (by simp)) rfl
      simp only [hall 8 (by simp), if_true] at y6
      replace p6 : Pre (B 6 + 1) v1.heap.size := p6
      replace y6 : blk v1 (B 6) = nw 9 x := y6
      obtain ⟨x7, q7, p7, z7, y7⟩ := h4 7 _ (hall 7 (by simp)) rfl
      simp only [hall 9 (by simp), if_true] at y7
      replace p7 : Pre (B 7 + 1) v1.heap.size := p7
      replace y7 : blk v1 (B 7) = nw 9 y := y7
      have hb1 := hR.1
      rw [hF.final (by kernel_rfl) hall]
      simp only [putFrom, Act.put, List.setIfInBounds_toArray, List.set_cons_zero, List.set_cons_succ, x0, x1, x2, x3, x4, x5, x6, x7]
      generalize B 6 = b6 at *
      generalize B 7 = b7 at *
      clear hV h4 h5 hR hF hall x0 x1 x2 x3 x4 x5 x6 x7
      go_wp2_with fail
      go_meet
      exact ⟨b6, b7, rfl, rfl, G.trans hb1, c_w_heap_size.gr hb1, c__w_heap_size_1_.gr hb1, c_e7.gr hb1, c_e8.gr hb1, ⟨y6, z6, p6⟩, ⟨y7, z7, p7⟩, S_p.gr hb1⟩
  clear HV
  obtain ⟨e9, e10, rfl, rfl, HV⟩ := hcut
  have ⟨G, c_w_heap_size, c__w_heap_size_1_, c_e7, c_e8, c_e9, c_e10, S_p⟩ := HV.out
  have ⟨hc_w_heap_size, fc_w_heap_size, pc_w_heap_size⟩ := c_w_heap_size
  have ⟨hc__w_heap_size_1_, fc__w_heap_size_1_, pc__w_heap_size_1_⟩ := c__w_heap_size_1_
  have ⟨hc_e7, fc_e7, pc_e7⟩ := c_e7
  have h0c_e7 := (c_e7).at0
  have h1c_e7 := (c_e7).at1
  have ⟨hc_e8, fc_e8, pc_e8⟩ := c_e8
  have ⟨hc_e9, fc_e9, pc_e9⟩ := c_e9
  have ⟨hc_e10, fc_e10, pc_e10⟩ := c_e10
  go_upto_region 7 with (first
      | (go_at_call 18; refine (num_any _ _).mono ?_; rintro e w' ⟨rfl, rfl⟩))
  go_cut [11, 12] from 40 to 47 (fun a0 a1 wx => ∃ e11 : Nat, a0 = .pointer (some ⟨e11, 0, none⟩) ∧ a1 = .int .i64 0 ∧ Hid (Gr w wx ∧ Cl wx (w.heap.size) a ∧ Cl wx (w.heap.size + 1) b ∧ Cv wx e7 k p (dl m) n q ∧ Cl wx e8 m ∧ Cl wx e9 x ∧ Cl wx e10 y ∧ Cl wx e11 t ∧ Sl wx p m))
  case first =>
    have ⟨G, c_w_heap_size, c__w_heap_size_1_, c_e7, c_e8, c_e9, c_e10, S_p⟩ := HV.out
    have ⟨hc_w_heap_size, fc_w_heap_size, pc_w_heap_size⟩ := c_w_heap_size
    have ⟨hc__w_heap_size_1_, fc__w_heap_size_1_, pc__w_heap_size_1_⟩ := c__w_heap_size_1_
    have ⟨hc_e7, fc_e7, pc_e7⟩ := c_e7
    have h0c_e7 := (c_e7).at0
    have h1c_e7 := (c_e7).at1
    have ⟨hc_e8, fc_e8, pc_e8⟩ := c_e8
    have ⟨hc_e9, fc_e9, pc_e9⟩ := c_e9
    have ⟨hc_e10, fc_e10, pc_e10⟩ := c_e10
    go_wp2_with (first
        | (go_at_call_of 16 ((#[.int .i64 k, .agg (nw 9 x), .agg (nw 9 y)] : Array Value)); refine (M1.out _).mono ?_; rintro e w' ⟨rfl, g1, rfl⟩)
        | (go_at_call 18; refine (num_any _ _).mono ?_; rintro e w' ⟨rfl, rfl⟩))
    go_meet
    exact ⟨_, rfl, rfl, G.trans (by repeat (first | exact Gr.refl _ | apply Gr.drewN | apply Gr.drew | apply Gr.alloc | apply Gr.gro)), c_w_heap_size.gr (by repeat (first | exact Gr.refl _ | apply Gr.drewN | apply Gr.drew | apply Gr.alloc | apply Gr.gro)), c__w_heap_size_1_.gr (by repeat (first | exact Gr.refl _ | apply Gr.drewN | apply Gr.drew | apply Gr.alloc | apply Gr.gro)), c_e7.gr (by repeat (first | exact Gr.refl _ | apply Gr.drewN | apply Gr.drew | apply Gr.alloc | apply Gr.gro)), c_e8.gr (by repeat (first | exact Gr.refl _ | apply Gr.drewN | apply Gr.drew | apply Gr.alloc | apply Gr.gro)), c_e9.gr (by repeat (first | exact Gr.refl _ | apply Gr.drewN | apply Gr.drew | apply Gr.alloc | apply Gr.gro)), c_e10.gr (by repeat (first | exact Gr.refl _ | apply Gr.drewN | apply Gr.drew | apply Gr.alloc | apply Gr.gro)), ⟨by simp [go_sem], by simp [go_sem], by simp [go_sem]⟩, S_p.gr (by repeat (first | exact Gr.refl _ | apply Gr.drewN | apply Gr.drew | apply Gr.alloc | apply Gr.gro))⟩
  clear HV
  obtain ⟨e11, rfl, rfl, HV⟩ := hcut
  go_upto_region 8 with fail
  go_cut [13, 14] from 48 to 54 (fun a0 a1 wx => ∃ e13 : Nat, a0 = .pointer (some ⟨e13, 0, none⟩) ∧ a1 = .int .i64 0 ∧ Hid (Gr w wx ∧ Cl wx (w.heap.size) a ∧ Cl wx (w.heap.size + 1) b ∧ Cv wx e7 k p (dl m) n q ∧ Cl wx e8 m ∧ Cl wx e9 x ∧ Cl wx e10 y ∧ Cl wx e11 t ∧ Cl wx e13 f ∧ Sl wx p m))
  case first =>
    have ⟨G, c_w_heap_size, c__w_heap_size_1_, c_e7, c_e8, c_e9, c_e10, c_e11, S_p⟩ := HV.out
    have ⟨hc_w_heap_size, fc_w_heap_size, pc_w_heap_size⟩ := c_w_heap_size
    have ⟨hc__w_heap_size_1_, fc__w_heap_size_1_, pc__w_heap_size_1_⟩ := c__w_heap_size_1_
    have ⟨hc_e7, fc_e7, pc_e7⟩ := c_e7
    have h0c_e7 := (c_e7).at0
    have h1c_e7 := (c_e7).at1
    have ⟨hc_e8, fc_e8, pc_e8⟩ := c_e8
    have ⟨hc_e9, fc_e9, pc_e9⟩ := c_e9
    have ⟨hc_e10, fc_e10, pc_e10⟩ := c_e10
    have ⟨hc_e11, fc_e11, pc_e11⟩ := c_e11
    go_wp2_with (first
        | (go_at_call_of 29 ((#[.int .i64 k, .agg (nw 9 x)] : Array Value)); refine (S1.out _).mono ?_; rintro e w' ⟨rfl, g2, rfl⟩)
        | (go_at_call 18; refine (num_any _ _).mono ?_; rintro e w' ⟨rfl, rfl⟩))
    go_meet
    exact ⟨_, rfl, rfl, G.trans (by repeat (first | exact Gr.refl _ | apply Gr.drewN | apply Gr.drew | apply Gr.alloc | apply Gr.gro)), c_w_heap_size.gr (by repeat (first | exact Gr.refl _ | apply Gr.drewN | apply Gr.drew | apply Gr.alloc | apply Gr.gro)), c__w_heap_size_1_.gr (by repeat (first | exact Gr.refl _ | apply Gr.drewN | apply Gr.drew | apply Gr.alloc | apply Gr.gro)), c_e7.gr (by repeat (first | exact Gr.refl _ | apply Gr.drewN | apply Gr.drew | apply Gr.alloc | apply Gr.gro)), c_e8.gr (by repeat (first | exact Gr.refl _ | apply Gr.drewN | apply Gr.drew | apply Gr.alloc | apply Gr.gro)), c_e9.gr (by repeat (first | exact Gr.refl _ | apply Gr.drewN | apply Gr.drew | apply Gr.alloc | apply Gr.gro)), c_e10.gr (by repeat (first | exact Gr.refl _ | apply Gr.drewN | apply Gr.drew | apply Gr.alloc | apply Gr.gro)), c_e11.gr (by repeat (first | exact Gr.refl _ | apply Gr.drewN | apply Gr.drew | apply Gr.alloc | apply Gr.gro)), ⟨by simp [go_sem], by simp [go_sem], by simp [go_sem]⟩, S_p.gr (by repeat (first | exact Gr.refl _ | apply Gr.drewN | apply Gr.drew | apply Gr.alloc | apply Gr.gro))⟩
  clear HV
  obtain ⟨e13, rfl, rfl, HV⟩ := hcut
  go_upto_region 9 with fail
  go_cut [15, 16] from 55 to 61 (fun a0 a1 wx => ∃ e15 : Nat, a0 = .pointer (some ⟨e15, 0, none⟩) ∧ a1 = .int .i64 0 ∧ Hid (Gr w wx ∧ Cl wx (w.heap.size) a ∧ Cl wx (w.heap.size + 1) b ∧ Cv wx e7 k p (dl m) n q ∧ Cl wx e8 m ∧ Cl wx e9 x ∧ Cl wx e10 y ∧ Cl wx e11 t ∧ Cl wx e13 f ∧ Cl wx e15 g ∧ Sl wx p m))
  case first =>
    have ⟨G, c_w_heap_size, c__w_heap_size_1_, c_e7, c_e8, c_e9, c_e10, c_e11, c_e13, S_p⟩ := HV.out
    have ⟨hc_w_heap_size, fc_w_heap_size, pc_w_heap_size⟩ := c_w_heap_size
    have ⟨hc__w_heap_size_1_, fc__w_heap_size_1_, pc__w_heap_size_1_⟩ := c__w_heap_size_1_
    have ⟨hc_e7, fc_e7, pc_e7⟩ := c_e7
    have h0c_e7 := (c_e7).at0
    have h1c_e7 := (c_e7).at1
    have ⟨hc_e8, fc_e8, pc_e8⟩ := c_e8
    have ⟨hc_e9, fc_e9, pc_e9⟩ := c_e9
    have ⟨hc_e10, fc_e10, pc_e10⟩ := c_e10
    have ⟨hc_e11, fc_e11, pc_e11⟩ := c_e11
    have ⟨hc_e13, fc_e13, pc_e13⟩ := c_e13
    go_wp2_with (first
        | (go_at_call_of 29 ((#[.int .i64 k, .agg (nw 9 y)] : Array Value)); refine (S2.out _).mono ?_; rintro e w' ⟨rfl, g3, rfl⟩)
        | (go_at_call 18; refine (num_any _ _).mono ?_; rintro e w' ⟨rfl, rfl⟩))
    go_meet
    exact ⟨_, rfl, rfl, G.trans (by repeat (first | exact Gr.refl _ | apply Gr.drewN | apply Gr.drew | apply Gr.alloc | apply Gr.gro)), c_w_heap_size.gr (by repeat (first | exact Gr.refl _ | apply Gr.drewN | apply Gr.drew | apply Gr.alloc | apply Gr.gro)), c__w_heap_size_1_.gr (by repeat (first | exact Gr.refl _ | apply Gr.drewN | apply Gr.drew | apply Gr.alloc | apply Gr.gro)), c_e7.gr (by repeat (first | exact Gr.refl _ | apply Gr.drewN | apply Gr.drew | apply Gr.alloc | apply Gr.gro)), c_e8.gr (by repeat (first | exact Gr.refl _ | apply Gr.drewN | apply Gr.drew | apply Gr.alloc | apply Gr.gro)), c_e9.gr (by repeat (first | exact Gr.refl _ | apply Gr.drewN | apply Gr.drew | apply Gr.alloc | apply Gr.gro)), c_e10.gr (by repeat (first | exact Gr.refl _ | apply Gr.drewN | apply Gr.drew | apply Gr.alloc | apply Gr.gro)), c_e11.gr (by repeat (first | exact Gr.refl _ | apply Gr.drewN | apply Gr.drew | apply Gr.alloc | apply Gr.gro)), c_e13.gr (by repeat (first | exact Gr.refl _ | apply Gr.drewN | apply Gr.drew | apply Gr.alloc | apply Gr.gro)), ⟨by simp [go_sem], by simp [go_sem], by simp [go_sem]⟩, S_p.gr (by repeat (first | exact Gr.refl _ | apply Gr.drewN | apply Gr.drew | apply Gr.alloc | apply Gr.gro))⟩
  clear HV
  obtain ⟨e15, rfl, rfl, HV⟩ := hcut
  go_upto_region 10 with fail
  go_cut [17, 18] from 62 to 68 (fun a0 a1 wx => ∃ e17 : Nat, a0 = .pointer (some ⟨e17, 0, none⟩) ∧ a1 = .int .i64 0 ∧ Hid (Gr w wx ∧ Cl wx (w.heap.size) a ∧ Cl wx (w.heap.size + 1) b ∧ Cv wx e7 k p (dl m) n q ∧ Cl wx e8 m ∧ Cl wx e9 x ∧ Cl wx e10 y ∧ Cl wx e11 t ∧ Cl wx e13 f ∧ Cl wx e15 g ∧ Cl wx e17 r ∧ Sl wx p m))
  case first =>
    have ⟨G, c_w_heap_size, c__w_heap_size_1_, c_e7, c_e8, c_e9, c_e10, c_e11, c_e13, c_e15, S_p⟩ := HV.out
    have ⟨hc_w_heap_size, fc_w_heap_size, pc_w_heap_size⟩ := c_w_heap_size
    have ⟨hc__w_heap_size_1_, fc__w_heap_size_1_, pc__w_heap_size_1_⟩ := c__w_heap_size_1_
    have ⟨hc_e7, fc_e7, pc_e7⟩ := c_e7
    have h0c_e7 := (c_e7).at0
    have h1c_e7 := (c_e7).at1
    have ⟨hc_e8, fc_e8, pc_e8⟩ := c_e8
    have ⟨hc_e9, fc_e9, pc_e9⟩ := c_e9
    have ⟨hc_e10, fc_e10, pc_e10⟩ := c_e10
    have ⟨hc_e11, fc_e11, pc_e11⟩ := c_e11
    have ⟨hc_e13, fc_e13, pc_e13⟩ := c_e13
    have ⟨hc_e15, fc_e15, pc_e15⟩ := c_e15
    go_wp2_with (first
        | (go_at_call_of 29 ((#[.int .i64 k, .agg (nw 9 t)] : Array Value)); refine (S3.out _).mono ?_; rintro e w' ⟨rfl, g4, rfl⟩)
        | (go_at_call 18; refine (num_any _ _).mono ?_; rintro e w' ⟨rfl, rfl⟩))
    go_meet
    exact ⟨_, rfl, rfl, G.trans (by repeat (first | exact Gr.refl _ | apply Gr.drewN | apply Gr.drew | apply Gr.alloc | apply Gr.gro)), c_w_heap_size.gr (by repeat (first | exact Gr.refl _ | apply Gr.drewN | apply Gr.drew | apply Gr.alloc | apply Gr.gro)), c__w_heap_size_1_.gr (by repeat (first | exact Gr.refl _ | apply Gr.drewN | apply Gr.drew | apply Gr.alloc | apply Gr.gro)), c_e7.gr (by repeat (first | exact Gr.refl _ | apply Gr.drewN | apply Gr.drew | apply Gr.alloc | apply Gr.gro)), c_e8.gr (by repeat (first | exact Gr.refl _ | apply Gr.drewN | apply Gr.drew | apply Gr.alloc | apply Gr.gro)), c_e9.gr (by repeat (first | exact Gr.refl _ | apply Gr.drewN | apply Gr.drew | apply Gr.alloc | apply Gr.gro)), c_e10.gr (by repeat (first | exact Gr.refl _ | apply Gr.drewN | apply Gr.drew | apply Gr.alloc | apply Gr.gro)), c_e11.gr (by repeat (first | exact Gr.refl _ | apply Gr.drewN | apply Gr.drew | apply Gr.alloc | apply Gr.gro)), c_e13.gr (by repeat (first | exact Gr.refl _ | apply Gr.drewN | apply Gr.drew | apply Gr.alloc | apply Gr.gro)), c_e15.gr (by repeat (first | exact Gr.refl _ | apply Gr.drewN | apply Gr.drew | apply Gr.alloc | apply Gr.gro)), ⟨by simp [go_sem], by simp [go_sem], by simp [go_sem]⟩, S_p.gr (by repeat (first | exact Gr.refl _ | apply Gr.drewN | apply Gr.drew | apply Gr.alloc | apply Gr.gro))⟩
  clear HV
  obtain ⟨e17, rfl, rfl, HV⟩ := hcut
  go_upto_region 11 with fail
  have ⟨G, c_w_heap_size, c__w_heap_size_1_, c_e7, c_e8, c_e9, c_e10, c_e11, c_e13, c_e15, c_e17, S_p⟩ := HV.out
  have ⟨hc_w_heap_size, fc_w_heap_size, pc_w_heap_size⟩ := c_w_heap_size
  have ⟨hc__w_heap_size_1_, fc__w_heap_size_1_, pc__w_heap_size_1_⟩ := c__w_heap_size_1_
  have ⟨hc_e7, fc_e7, pc_e7⟩ := c_e7
  have h0c_e7 := (c_e7).at0
  have h1c_e7 := (c_e7).at1
  have ⟨hc_e8, fc_e8, pc_e8⟩ := c_e8
  have ⟨hc_e9, fc_e9, pc_e9⟩ := c_e9
  have ⟨hc_e10, fc_e10, pc_e10⟩ := c_e10
  have ⟨hc_e11, fc_e11, pc_e11⟩ := c_e11
  have ⟨hc_e13, fc_e13, pc_e13⟩ := c_e13
  have ⟨hc_e15, fc_e15, pc_e15⟩ := c_e15
  have ⟨hc_e17, fc_e17, pc_e17⟩ := c_e17
  clear HV
  go_wp2_with (first
      | (go_at_call_of 32 ((#[.agg (cvA k p (dl m) n q), .agg (nw 9 a)] : Array Value)); refine (B1.out p n q _ (S_p.gr (by repeat (first | exact Gr.refl _ | apply Gr.drewN | apply Gr.drew | apply Gr.alloc | apply Gr.gro)))).mono ?_; rintro e w' ⟨rfl, g5, rfl⟩)
      | (go_at_call_of 32 ((#[.agg (cvA k p (dl m) n q), .agg (nw 9 b)] : Array Value)); refine (B2.out p n q _ (S_p.gr (by repeat (first | exact Gr.refl _ | apply Gr.drewN | apply Gr.drew | apply Gr.alloc | apply Gr.gro)))).mono ?_; rintro e w' ⟨rfl, g6, rfl⟩)
      | (go_at_call_of 16 ((#[.int .i64 k, .agg (nw 9 x), .agg (nw 9 y)] : Array Value)); refine (M1.out _).mono ?_; rintro e w' ⟨rfl, g7, rfl⟩)
      | (go_at_call_of 29 ((#[.int .i64 k, .agg (nw 9 x)] : Array Value)); refine (S1.out _).mono ?_; rintro e w' ⟨rfl, g8, rfl⟩)
      | (go_at_call_of 29 ((#[.int .i64 k, .agg (nw 9 y)] : Array Value)); refine (S2.out _).mono ?_; rintro e w' ⟨rfl, g9, rfl⟩)
      | (go_at_call_of 29 ((#[.int .i64 k, .agg (nw 9 t)] : Array Value)); refine (S3.out _).mono ?_; rintro e w' ⟨rfl, g10, rfl⟩)
      | (go_at_call 18; refine (num_any _ _).mono ?_; rintro e w' ⟨rfl, rfl⟩))
  go_ret
  refine ⟨rfl, ?_⟩
  repeat (first | exact G | apply Gr.drewN | apply Gr.drew | apply Gr.alloc | apply Gr.gro)
set_option maxRecDepth 100000 in
set_option maxHeartbeats 4000000 in
theorem fprod_1 (id : Int) (k a b : Nat) (h1 : 1 ≤ k) (h2 : k ≤ 15) (ha : a < M) (hb : b < M) (hz : a % pN k ≠ 0 ∧ b % pN k ≠ 0) (q1 : sqE k (a % pN k) = 0) (q2 : sqE k (b % pN k) = 503) (q3 : sqE k (a % pN k * (b % pN k) % pN k) = 503)
    (HO : ∀ w, Calls Try.prog 34 #[.int .i64 id] w fun e w' => ∃ p n q, e = .returned (.tuple #[.agg (cvA k p (dl (pN k)) n q), .agg (nw 9 (pN k))]) ∧ Sl w' p (pN k) ∧ Gr w w') (w : World) :
    Calls Try.prog 8 #[.int .i64 id, .agg (nw 9 a), .agg (nw 9 b)] w fun e w' => e = .returned (.bool true) ∧ Gr w w' := by
  have hB := pN_bd k h1 h2
  have hdl := pN_dl k h1 h2
  have hprm := prm_pN k h1 h2
  obtain ⟨m, hm⟩ : ∃ m, pN k = m := ⟨_, rfl⟩
  have FA := fun a b ha hb w => fAdd_ok k a b h1 h2 ha hb w
  have FSu := fun a b ha hb w => fSub_ok k a b h1 h2 ha hb w
  have FR := fun W hW w => fReduce_ok k W h1 h2 hW w
  have FM := fun a b ha hb w => fMul_ok k a b h1 h2 ha hb w
  have FI := fun a h0 ha hg => fInv_ok k a h1 h2 h0 ha hg
  have FZ := fun w => fInv_zero k h1 h2 w
  rw [hm] at hB hdl hprm FA FSu FR FM FI HO
  obtain ⟨x, hx⟩ : ∃ x, a % m = x := ⟨_, rfl⟩
  obtain ⟨y, hy⟩ : ∃ y, b % m = y := ⟨_, rfl⟩
  have hxm : x < m := by rw [← hx]; exact Nat.mod_lt _ (by omega)
  have hym : y < m := by rw [← hy]; exact Nat.mod_lt _ (by omega)
  have FQ1 := fun a ha w => fSqrt_ok k a h1 h2 ha w
  rw [hm] at FQ1
  obtain ⟨t, ht⟩ : ∃ t, x * y % m = t := ⟨_, rfl⟩
  have htm : t < m := by rw [← ht]; exact Nat.mod_lt _ (by omega)
  rw [hm, hx] at q1
  rw [hm, hy] at q2
  rw [hm, hx, hy, ht] at q3
  rw [hm, hx, hy] at hz
  have e1 : eqN 9 x 0 = false := eqN_no x 0 (by omega) M_pos hz.1
  have e2 : eqN 9 y 0 = false := eqN_no y 0 (by omega) M_pos hz.2
  obtain ⟨f, hf⟩ : ∃ f, sqR k x = f := ⟨_, rfl⟩
  obtain ⟨g, hgg⟩ : ∃ f, sqR k y = f := ⟨_, rfl⟩
  obtain ⟨r, hr⟩ : ∃ f, sqR k t = f := ⟨_, rfl⟩
  have B1 : Hid (∀ (p : Option Addr) (n : Nat) (q : Nat → Option Addr × Nat × Nat) w', Sl w' p m → Calls Try.prog 32 #[.agg (cvA k p (dl m) n q), .agg (nw 9 a)] w' fun e w'' => e = .returned (.agg (nw 9 x)) ∧ Gr w' w'') := fun p n q w' h => hx ▸ below_any k m a n p q (by omega) hdl ha w' h
  have B2 : Hid (∀ (p : Option Addr) (n : Nat) (q : Nat → Option Addr × Nat × Nat) w', Sl w' p m → Calls Try.prog 32 #[.agg (cvA k p (dl m) n q), .agg (nw 9 b)] w' fun e w'' => e = .returned (.agg (nw 9 y)) ∧ Gr w' w'') := fun p n q w' h => hy ▸ below_any k m b n p q (by omega) hdl hb w' h
  have M1 : Hid (∀ w', Calls Try.prog 16 #[.int .i64 k, .agg (nw 9 x), .agg (nw 9 y)] w' fun e w'' => e = .returned (.tuple #[.agg (nw 9 t), .int .i64 0]) ∧ Gr w' w'') := fun w => ht ▸ FM x y hxm hym w
  have S1 : Hid (∀ w', Calls Try.prog 29 #[.int .i64 k, .agg (nw 9 x)] w' fun e w'' => e = .returned (.tuple #[.agg (nw 9 f), .int .i64 0]) ∧ Gr w' w'') := fun w => by
    have := FQ1 x hxm w
    rw [hf, q1] at this
    exact this
  have S2 : Hid (∀ w', Calls Try.prog 29 #[.int .i64 k, .agg (nw 9 y)] w' fun e w'' => e = .returned (.tuple #[.agg (nw 9 g), .int .i64 503]) ∧ Gr w' w'') := fun w => by
    have := FQ1 y hym w
    rw [hgg, q2] at this
    exact this
  have S3 : Hid (∀ w', Calls Try.prog 29 #[.int .i64 k, .agg (nw 9 t)] w' fun e w'' => e = .returned (.tuple #[.agg (nw 9 r), .int .i64 503]) ∧ Gr w' w'') := fun w => by
    have := FQ1 t htm w
    rw [hr, q3] at this
    exact this
  have HO' : Hid (∀ w, Calls Try.prog 34 #[.int .i64 id] w fun e w' => ∃ p n q, e = .returned (.tuple #[.agg (cvA k p (dl m) n q), .agg (nw 9 m)]) ∧ Sl w' p m ∧ Gr w w') := HO
  clear HO FA FSu FR FM FI FZ hprm hB hdl hm h1 h2 hx hy hxm hym ha hb hz FQ1 ht htm q1 q2 q3 hf hgg hr
  go_enter Try.func8, Try.ntmps8
  go_upto_region 3 with (go_at_call 19; refine (awake5_any _).mono ?_; rintro e w' ⟨rfl, gaw, rfl⟩)
  refine gen_w (fun v => Hid (Gr w v ∧ Cl v w.heap.size a ∧ Cl v (w.heap.size + 1) b)) ⟨(by repeat (first | exact Gr.refl _ | apply Gr.drewN | apply Gr.drew | apply Gr.alloc | apply Gr.gro)), ⟨by simp [go_sem], by simp [go_sem], by simp [go_sem]⟩, ⟨by simp [go_sem], by simp [go_sem], by simp [go_sem]⟩⟩ ?_
  intro v0 HV
  go_cut [7, 8] from 21 to 25 (fun a0 a1 wx => ∃ (e7 e8 : Nat) (p : Option Addr) (n : Nat) (q : Nat → Option Addr × Nat × Nat), a0 = .pointer (some ⟨e7, 0, none⟩) ∧ a1 = .pointer (some ⟨e8, 0, none⟩) ∧ Hid (Gr w wx ∧ Cl wx w.heap.size a ∧ Cl wx (w.heap.size + 1) b ∧ Cv wx e7 k p (dl m) n q ∧ Cl wx e8 m ∧ Sl wx p m))
  case first =>
    have ⟨G, c0, c1⟩ := HV.out
    go_wp2_with (go_at_call 34; refine (HO'.out _).mono ?_; rintro e W1 ⟨p, n, q, rfl, S1, G1⟩)
    go_meet
    exact ⟨_, _, p, n, q, rfl, rfl, G.trans (G1.trans (by repeat (first | exact Gr.refl _ | apply Gr.drewN | apply Gr.drew | apply Gr.alloc | apply Gr.gro))), c0.gr (G1.trans (by repeat (first | exact Gr.refl _ | apply Gr.drewN | apply Gr.drew | apply Gr.alloc | apply Gr.gro))), c1.gr (G1.trans (by repeat (first | exact Gr.refl _ | apply Gr.drewN | apply Gr.drew | apply Gr.alloc | apply Gr.gro))), ⟨by simp [go_sem], by simp [go_sem], by simp [go_sem]⟩, ⟨by simp [go_sem], by simp [go_sem], by simp [go_sem]⟩, S1.gr (by repeat (first | exact Gr.refl _ | apply Gr.drewN | apply Gr.drew | apply Gr.alloc | apply Gr.gro))⟩
  clear HV
  obtain ⟨e7, e8, p, n, q, rfl, rfl, HV⟩ := hcut
  go_upto_region 4 with fail
  go_cut [9, 10] from 26 to 31 (fun a0 a1 wx => ∃ e9 e10 : Nat, a0 = .pointer (some ⟨e9, 0, none⟩) ∧ a1 = .pointer (some ⟨e10, 0, none⟩) ∧ Hid (Gr w wx ∧ Cl wx (w.heap.size) a ∧ Cl wx (w.heap.size + 1) b ∧ Cv wx e7 k p (dl m) n q ∧ Cl wx e8 m ∧ Cl wx e9 x ∧ Cl wx e10 y ∧ Sl wx p m))
  case first =>
    have ⟨G, c_w_heap_size, c__w_heap_size_1_, c_e7, c_e8, S_p⟩ := HV.out
    have ⟨hc_w_heap_size, fc_w_heap_size, pc_w_heap_size⟩ := c_w_heap_size
    have ⟨hc__w_heap_size_1_, fc__w_heap_size_1_, pc__w_heap_size_1_⟩ := c__w_heap_size_1_
    have ⟨hc_e7, fc_e7, pc_e7⟩ := c_e7
    have h0c_e7 := (c_e7).at0
    have h1c_e7 := (c_e7).at1
    have ⟨hc_e8, fc_e8, pc_e8⟩ := c_e8
    refine wp_region_mix (by kernel_rfl) (by kernel_rfl) (RG _ (fun i => match i with | 0 => some (.agg (cvA k p (dl m) n q)) | 1 => some (.agg (nw 9 a)) | 2 => some (.agg (nw 9 x)) | 3 => some (.agg (cvA k p (dl m) n q)) | 4 => some (.agg (nw 9 b)) | 5 => some (.agg (nw 9 y)) | _ => none) (fun i => match i with | 6 => some (nw 9 0) | 7 => some (nw 9 0) | _ => none) (fun i => match i with | 6 => some (8, nw 9 x) | 7 => some (9, nw 9 y) | _ => none)) (RG.start _ _ _ _ _ _) ?hs ?hf
    case hs =>
      intro listed vals a1 v1 i o hz hR hF ho hl hd
      have hks : ∀ (j k : Nat) (r : Array Value), (match j with | 6 => some (8, nw 9 x) | 7 => some (9, nw 9 y) | _ => (none : Option (Nat × Array Value))) = some (k, r) → (j = 6 ∧ k = 8) ∨ (j = 7 ∧ k = 9) := fun j k r h => by
        split at h <;> simp_all
      have Hc_w_heap_size : blk v1 (w.heap.size) = nw 9 a := (blk_of _ _ _ (hR.1.below.block (w.heap.size) (c_w_heap_size.p))).trans (c_w_heap_size.h)
      have Hc__w_heap_size_1_ : blk v1 ((w.heap.size + 1)) = nw 9 b := (blk_of _ _ _ (hR.1.below.block ((w.heap.size + 1)) (c__w_heap_size_1_.p))).trans (c__w_heap_size_1_.h)
      have Hc_e7 : blk v1 (e7) = cvA k p (dl m) n q := (blk_of _ _ _ (hR.1.below.block (e7) (c_e7.p))).trans (c_e7.h)
      have Hc_e8 : blk v1 (e8) = nw 9 m := (blk_of _ _ _ (hR.1.below.block (e8) (c_e8.p))).trans (c_e8.h)
      have hi : i < 10 := by simpa using (Array.getElem?_eq_some_iff.1 ho).1
      have hil : i < listed.size := by rw [hz]; simpa using hi
      obtain rfl | rfl | rfl | rfl | rfl | rfl | rfl | rfl | rfl | rfl : i = 0 ∨ i = 1 ∨ i = 2 ∨ i = 3 ∨ i = 4 ∨ i = 5 ∨ i = 6 ∨ i = 7 ∨ i = 8 ∨ i = 9 := by omega
      · obtain rfl := Option.some.inj ho
        have f0 := hF.old (s := 7) (v := .pointer (some ⟨e7, 0, none⟩)) (by kernel_rfl) rfl
        exact wp_val (.agg (cvA k p (dl m) n q)) (by simp [go_sem, f0, Hc_e7]) ⟨_, rfl, RG.quiet 0 _ hil rfl rfl (fun j k r h => by have := hks j k r h; omega) (Gr.refl _) hR⟩
      · obtain rfl := Option.some.inj ho
        have f0 := hF.old (s := 4) (v := .pointer (some ⟨w.heap.size, 0, none⟩)) (by kernel_rfl) rfl
        exact wp_val (.agg (nw 9 a)) (by simp [go_sem, f0, Hc_w_heap_size]) ⟨_, rfl, RG.quiet 1 _ hil rfl rfl (fun j k r h => by have := hks j k r h; omega) (Gr.refl _) hR⟩
      · obtain rfl := Option.some.inj ho
        have l0 := hd ⟨0, .data⟩ (by simp) rfl
        have f0 := hF.at (s := 26) (i := 0) (by kernel_rfl) (by simp) l0
        rw [hR.2.1 0 _ l0 rfl] at f0
        have l1 := hd ⟨1, .data⟩ (by simp) rfl
        have f1 := hF.at (s := 27) (i := 1) (by kernel_rfl) (by simp) l1
        rw [hR.2.1 1 _ l1 rfl] at f1
        exact wp_ret (.agg (nw 9 x)) (by simp [go_sem, f0, f1]) (B1.out p n q _ (S_p.gr hR.1)) (fun w2 hg => ⟨_, rfl, RG.quiet 2 _ hil rfl rfl (fun j k r h => by have := hks j k r h; omega) hg hR⟩)
      · obtain rfl := Option.some.inj ho
        have f0 := hF.old (s := 7) (v := .pointer (some ⟨e7, 0, none⟩)) (by kernel_rfl) rfl
        exact wp_val (.agg (cvA k p (dl m) n q)) (by simp [go_sem, f0, Hc_e7]) ⟨_, rfl, RG.quiet 3 _ hil rfl rfl (fun j k r h => by have := hks j k r h; omega) (Gr.refl _) hR⟩
      · obtain rfl := Option.some.inj ho
        have f0 := hF.old (s := 5) (v := .pointer (some ⟨(w.heap.size + 1), 0, none⟩)) (by kernel_rfl) rfl
        exact wp_val (.agg (nw 9 b)) (by simp [go_sem, f0, Hc__w_heap_size_1_]) ⟨_, rfl, RG.quiet 4 _ hil rfl rfl (fun j k r h => by have := hks j k r h; omega) (Gr.refl _) hR⟩
      · obtain rfl := Option.some.inj ho
        have l0 := hd ⟨3, .data⟩ (by simp) rfl
        have f0 := hF.at (s := 29) (i := 3) (by kernel_rfl) (by simp) l0
        rw [hR.2.1 3 _ l0 rfl] at f0
        have l1 := hd ⟨4, .data⟩ (by simp) rfl
        have f1 := hF.at (s := 30) (i := 4) (by kernel_rfl) (by simp) l1
        rw [hR.2.1 4 _ l1 rfl] at f1
        exact wp_ret (.agg (nw 9 y)) (by simp [go_sem, f0, f1]) (B2.out p n q _ (S_p.gr hR.1)) (fun w2 hg => ⟨_, rfl, RG.quiet 5 _ hil rfl rfl (fun j k r h => by have := hks j k r h; omega) hg hR⟩)
      · obtain rfl := Option.some.inj ho
        exact wp_val (.pointer (some ⟨v1.heap.size, 0, none⟩)) (w' := v1.alloc (.cells (nw 9 0) 25)) (by simp [go_sem]) ⟨_, rfl, RG.alloc 6 (nw 9 0) 25 hil hl rfl rfl (fun j k r h => by have := hks j k r h; omega) hR⟩
      · obtain rfl := Option.some.inj ho
        exact wp_val (.pointer (some ⟨v1.heap.size, 0, none⟩)) (w' := v1.alloc (.cells (nw 9 0) 25)) (by simp [go_sem]) ⟨_, rfl, RG.alloc 7 (nw 9 0) 25 hil hl rfl rfl (fun j k r h => by have := hks j k r h; omega) hR⟩
      · obtain rfl := Option.some.inj ho
        have l0 := hd ⟨6, .data⟩ (by simp) rfl
        have l1 := hd ⟨2, .data⟩ (by simp) rfl
        obtain ⟨B, h4, h5⟩ := hR.2.2.2
        obtain ⟨e1, e2, e3, e4, e5⟩ := h4 6 (nw 9 0) l0 rfl
        simp only [hl] at e5
        replace e5 : blk v1 (B 6) = nw 9 0 := e5
        have f0 := hF.at (s := 9) (i := 6) (by kernel_rfl) (by simp) l0
        rw [e1] at f0
        have f1 := hF.at (s := 28) (i := 2) (by kernel_rfl) (by simp) l1
        rw [hR.2.1 2 _ l1 rfl] at f1
        exact wp_skip (w' := setBlk v1 (B 6) (nw 9 x)) (by simp [go_sem, f0, f1, e4, e5]) ⟨undef, rfl, RG.store 8 6 (nw 9 0) (nw 9 x) (B 6) hil hl rfl rfl rfl l0 rfl (by rw [nw_size]; decide) e1 (fun k r h => by have := hks k _ r h; omega) hR⟩
      · obtain rfl := Option.some.inj ho
        have l0 := hd ⟨7, .data⟩ (by simp) rfl
        have l1 := hd ⟨5, .data⟩ (by simp) rfl
        obtain ⟨B, h4, h5⟩ := hR.2.2.2
        obtain ⟨e1, e2, e3, e4, e5⟩ := h4 7 (nw 9 0) l0 rfl
        simp only [hl] at e5
        replace e5 : blk v1 (B 7) = nw 9 0 := e5
        have f0 := hF.at (s := 10) (i := 7) (by kernel_rfl) (by simp) l0
        rw [e1] at f0
        have f1 := hF.at (s := 31) (i := 5) (by kernel_rfl) (by simp) l1
        rw [hR.2.1 5 _ l1 rfl] at f1
        exact wp_skip (w' := setBlk v1 (B 7) (nw 9 y)) (by simp [go_sem, f0, f1, e4, e5]) ⟨undef, rfl, RG.store 9 7 (nw 9 0) (nw 9 y) (B 7) hil hl rfl rfl rfl l0 rfl (by rw [nw_size]; decide) e1 (fun k r h => by have := hks k _ r h; omega) hR⟩
    case hf =>
      intro listed vals a1 v1 hall hR hF
      have Hc_w_heap_size : blk v1 (w.heap.size) = nw 9 a := (blk_of _ _ _ (hR.1.below.block (w.heap.size) (c_w_heap_size.p))).trans (c_w_heap_size.h)
      have pHc_w_heap_size : Pre (w.heap.size + 1) v1.heap.size := Nat.le_trans (show w.heap.size + 1 ≤ _ from c_w_heap_size.p) hR.1.below.size
      have Hc__w_heap_size_1_ : blk v1 ((w.heap.size + 1)) = nw 9 b := (blk_of _ _ _ (hR.1.below.block ((w.heap.size + 1)) (c__w_heap_size_1_.p))).trans (c__w_heap_size_1_.h)
      have pHc__w_heap_size_1_ : Pre ((w.heap.size + 1) + 1) v1.heap.size := Nat.le_trans (show (w.heap.size + 1) + 1 ≤ _ from c__w_heap_size_1_.p) hR.1.below.size
      have Hc_e7 : blk v1 (e7) = cvA k p (dl m) n q := (blk_of _ _ _ (hR.1.below.block (e7) (c_e7.p))).trans (c_e7.h)
      have pHc_e7 : Pre (e7 + 1) v1.heap.size := Nat.le_trans (show e7 + 1 ≤ _ from c_e7.p) hR.1.below.size
      have Hc_e8 : blk v1 (e8) = nw 9 m := (blk_of _ _ _ (hR.1.below.block (e8) (c_e8.p))).trans (c_e8.h)
      have pHc_e8 : Pre (e8 + 1) v1.heap.size := Nat.le_trans (show e8 + 1 ≤ _ from c_e8.p) hR.1.below.size
      have hV := hR.2.1
      obtain ⟨B, h4, h5⟩ := hR.2.2.2
      have x0 := hV 0 _ (hall 0 (by simp)) rfl
      have x1 := hV 1 _ (hall 1 (by simp)) rfl
      have x2 := hV 2 _ (hall 2 (by simp)) rfl
      have x3 := hV 3 _ (hall 3 (by simp)) rfl
      have x4 := hV 4 _ (hall 4 (by simp)) rfl
      have x5 := hV 5 _ (hall 5 (by simp)) rfl
      obtain ⟨x6, q6, p6, z6, y6⟩ := h4 6 _ (hall 6 (by simp)) rfl
      simp only [hall 8 (by simp), if_true] at y6
      replace p6 : Pre (B 6 + 1) v1.heap.size := p6
      replace y6 : blk v1 (B 6) = nw 9 x := y6
      obtain ⟨x7, q7, p7, z7, y7⟩ := h4 7 _ (hall 7 (by simp)) rfl
      simp only [hall 9 (by simp), if_true] at y7
      replace p7 : Pre (B 7 + 1) v1.heap.size := p7
      replace y7 : blk v1 (B 7) = nw 9 y := y7
      have hb1 := hR.1
      rw [hF.final (by kernel_rfl) hall]
      simp only [putFrom, Act.put, List.setIfInBounds_toArray, List.set_cons_zero, List.set_cons_succ, x0, x1, x2, x3, x4, x5, x6, x7]
      generalize B 6 = b6 at *
      generalize B 7 = b7 at *
      clear hV h4 h5 hR hF hall x0 x1 x2 x3 x4 x5 x6 x7
      go_wp2_with fail
      go_meet
      exact ⟨b6, b7, rfl, rfl, G.trans hb1, c_w_heap_size.gr hb1, c__w_heap_size_1_.gr hb1, c_e7.gr hb1, c_e8.gr hb1, ⟨y6, z6, p6⟩, ⟨y7, z7, p7⟩, S_p.gr hb1⟩
  clear HV
  obtain ⟨e9, e10, rfl, rfl, HV⟩ := hcut
  have ⟨G, c_w_heap_size, c__w_heap_size_1_, c_e7, c_e8, c_e9, c_e10, S_p⟩ := HV.out
  have ⟨hc_w_heap_size, fc_w_heap_size, pc_w_heap_size⟩ := c_w_heap_size
  have ⟨hc__w_heap_size_1_, fc__w_heap_size_1_, pc__w_heap_size_1_⟩ := c__w_heap_size_1_
  have ⟨hc_e7, fc_e7, pc_e7⟩ := c_e7
  have h0c_e7 := (c_e7).at0
  have h1c_e7 := (c_e7).at1
  have ⟨hc_e8, fc_e8, pc_e8⟩ := c_e8
  have ⟨hc_e9, fc_e9, pc_e9⟩ := c_e9
  have ⟨hc_e10, fc_e10, pc_e10⟩ := c_e10
  go_upto_region 7 with (first
      | (go_at_call 18; refine (num_any _ _).mono ?_; rintro e w' ⟨rfl, rfl⟩))
  go_cut [11, 12] from 40 to 47 (fun a0 a1 wx => ∃ e11 : Nat, a0 = .pointer (some ⟨e11, 0, none⟩) ∧ a1 = .int .i64 0 ∧ Hid (Gr w wx ∧ Cl wx (w.heap.size) a ∧ Cl wx (w.heap.size + 1) b ∧ Cv wx e7 k p (dl m) n q ∧ Cl wx e8 m ∧ Cl wx e9 x ∧ Cl wx e10 y ∧ Cl wx e11 t ∧ Sl wx p m))
  case first =>
    have ⟨G, c_w_heap_size, c__w_heap_size_1_, c_e7, c_e8, c_e9, c_e10, S_p⟩ := HV.out
    have ⟨hc_w_heap_size, fc_w_heap_size, pc_w_heap_size⟩ := c_w_heap_size
    have ⟨hc__w_heap_size_1_, fc__w_heap_size_1_, pc__w_heap_size_1_⟩ := c__w_heap_size_1_
    have ⟨hc_e7, fc_e7, pc_e7⟩ := c_e7
    have h0c_e7 := (c_e7).at0
    have h1c_e7 := (c_e7).at1
    have ⟨hc_e8, fc_e8, pc_e8⟩ := c_e8
    have ⟨hc_e9, fc_e9, pc_e9⟩ := c_e9
    have ⟨hc_e10, fc_e10, pc_e10⟩ := c_e10
    go_wp2_with (first
        | (go_at_call_of 16 ((#[.int .i64 k, .agg (nw 9 x), .agg (nw 9 y)] : Array Value)); refine (M1.out _).mono ?_; rintro e w' ⟨rfl, g1, rfl⟩)
        | (go_at_call 18; refine (num_any _ _).mono ?_; rintro e w' ⟨rfl, rfl⟩))
    go_meet
    exact ⟨_, rfl, rfl, G.trans (by repeat (first | exact Gr.refl _ | apply Gr.drewN | apply Gr.drew | apply Gr.alloc | apply Gr.gro)), c_w_heap_size.gr (by repeat (first | exact Gr.refl _ | apply Gr.drewN | apply Gr.drew | apply Gr.alloc | apply Gr.gro)), c__w_heap_size_1_.gr (by repeat (first | exact Gr.refl _ | apply Gr.drewN | apply Gr.drew | apply Gr.alloc | apply Gr.gro)), c_e7.gr (by repeat (first | exact Gr.refl _ | apply Gr.drewN | apply Gr.drew | apply Gr.alloc | apply Gr.gro)), c_e8.gr (by repeat (first | exact Gr.refl _ | apply Gr.drewN | apply Gr.drew | apply Gr.alloc | apply Gr.gro)), c_e9.gr (by repeat (first | exact Gr.refl _ | apply Gr.drewN | apply Gr.drew | apply Gr.alloc | apply Gr.gro)), c_e10.gr (by repeat (first | exact Gr.refl _ | apply Gr.drewN | apply Gr.drew | apply Gr.alloc | apply Gr.gro)), ⟨by simp [go_sem], by simp [go_sem], by simp [go_sem]⟩, S_p.gr (by repeat (first | exact Gr.refl _ | apply Gr.drewN | apply Gr.drew | apply Gr.alloc | apply Gr.gro))⟩
  clear HV
  obtain ⟨e11, rfl, rfl, HV⟩ := hcut
  go_upto_region 8 with fail
  go_cut [13, 14] from 48 to 54 (fun a0 a1 wx => ∃ e13 : Nat, a0 = .pointer (some ⟨e13, 0, none⟩) ∧ a1 = .int .i64 0 ∧ Hid (Gr w wx ∧ Cl wx (w.heap.size) a ∧ Cl wx (w.heap.size + 1) b ∧ Cv wx e7 k p (dl m) n q ∧ Cl wx e8 m ∧ Cl wx e9 x ∧ Cl wx e10 y ∧ Cl wx e11 t ∧ Cl wx e13 f ∧ Sl wx p m))
  case first =>
    have ⟨G, c_w_heap_size, c__w_heap_size_1_, c_e7, c_e8, c_e9, c_e10, c_e11, S_p⟩ := HV.out
    have ⟨hc_w_heap_size, fc_w_heap_size, pc_w_heap_size⟩ := c_w_heap_size
    have ⟨hc__w_heap_size_1_, fc__w_heap_size_1_, pc__w_heap_size_1_⟩ := c__w_heap_size_1_
    have ⟨hc_e7, fc_e7, pc_e7⟩ := c_e7
    have h0c_e7 := (c_e7).at0
    have h1c_e7 := (c_e7).at1
    have ⟨hc_e8, fc_e8, pc_e8⟩ := c_e8
    have ⟨hc_e9, fc_e9, pc_e9⟩ := c_e9
    have ⟨hc_e10, fc_e10, pc_e10⟩ := c_e10
    have ⟨hc_e11, fc_e11, pc_e11⟩ := c_e11
    go_wp2_with (first
        | (go_at_call_of 29 ((#[.int .i64 k, .agg (nw 9 x)] : Array Value)); refine (S1.out _).mono ?_; rintro e w' ⟨rfl, g2, rfl⟩)
        | (go_at_call 18; refine (num_any _ _).mono ?_; rintro e w' ⟨rfl, rfl⟩))
    go_meet
    exact ⟨_, rfl, rfl, G.trans (by repeat (first | exact Gr.refl _ | apply Gr.drewN | apply Gr.drew | apply Gr.alloc | apply Gr.gro)), c_w_heap_size.gr (by repeat (first | exact Gr.refl _ | apply Gr.drewN | apply Gr.drew | apply Gr.alloc | apply Gr.gro)), c__w_heap_size_1_.gr (by repeat (first | exact Gr.refl _ | apply Gr.drewN | apply Gr.drew | apply Gr.alloc | apply Gr.gro)), c_e7.gr (by repeat (first | exact Gr.refl _ | apply Gr.drewN | apply Gr.drew | apply Gr.alloc | apply Gr.gro)), c_e8.gr (by repeat (first | exact Gr.refl _ | apply Gr.drewN | apply Gr.drew | apply Gr.alloc | apply Gr.gro)), c_e9.gr (by repeat (first | exact Gr.refl _ | apply Gr.drewN | apply Gr.drew | apply Gr.alloc | apply Gr.gro)), c_e10.gr (by repeat (first | exact Gr.refl _ | apply Gr.drewN | apply Gr.drew | apply Gr.alloc | apply Gr.gro)), c_e11.gr (by repeat (first | exact Gr.refl _ | apply Gr.drewN | apply Gr.drew | apply Gr.alloc | apply Gr.gro)), ⟨by simp [go_sem], by simp [go_sem], by simp [go_sem]⟩, S_p.gr (by repeat (first | exact Gr.refl _ | apply Gr.drewN | apply Gr.drew | apply Gr.alloc | apply Gr.gro))⟩
  clear HV
  obtain ⟨e13, rfl, rfl, HV⟩ := hcut
  go_upto_region 9 with fail
  go_cut [15, 16] from 55 to 61 (fun a0 a1 wx => ∃ e15 : Nat, a0 = .pointer (some ⟨e15, 0, none⟩) ∧ a1 = .int .i64 503 ∧ Hid (Gr w wx ∧ Cl wx (w.heap.size) a ∧ Cl wx (w.heap.size + 1) b ∧ Cv wx e7 k p (dl m) n q ∧ Cl wx e8 m ∧ Cl wx e9 x ∧ Cl wx e10 y ∧ Cl wx e11 t ∧ Cl wx e13 f ∧ Cl wx e15 g ∧ Sl wx p m))
  case first =>
    have ⟨G, c_w_heap_size, c__w_heap_size_1_, c_e7, c_e8, c_e9, c_e10, c_e11, c_e13, S_p⟩ := HV.out
    have ⟨hc_w_heap_size, fc_w_heap_size, pc_w_heap_size⟩ := c_w_heap_size
    have ⟨hc__w_heap_size_1_, fc__w_heap_size_1_, pc__w_heap_size_1_⟩ := c__w_heap_size_1_
    have ⟨hc_e7, fc_e7, pc_e7⟩ := c_e7
    have h0c_e7 := (c_e7).at0
    have h1c_e7 := (c_e7).at1
    have ⟨hc_e8, fc_e8, pc_e8⟩ := c_e8
    have ⟨hc_e9, fc_e9, pc_e9⟩ := c_e9
    have ⟨hc_e10, fc_e10, pc_e10⟩ := c_e10
    have ⟨hc_e11, fc_e11, pc_e11⟩ := c_e11
    have ⟨hc_e13, fc_e13, pc_e13⟩ := c_e13
    go_wp2_with (first
        | (go_at_call_of 29 ((#[.int .i64 k, .agg (nw 9 y)] : Array Value)); refine (S2.out _).mono ?_; rintro e w' ⟨rfl, g3, rfl⟩)
        | (go_at_call 18; refine (num_any _ _).mono ?_; rintro e w' ⟨rfl, rfl⟩))
    go_meet
    exact ⟨_, rfl, rfl, G.trans (by repeat (first | exact Gr.refl _ | apply Gr.drewN | apply Gr.drew | apply Gr.alloc | apply Gr.gro)), c_w_heap_size.gr (by repeat (first | exact Gr.refl _ | apply Gr.drewN | apply Gr.drew | apply Gr.alloc | apply Gr.gro)), c__w_heap_size_1_.gr (by repeat (first | exact Gr.refl _ | apply Gr.drewN | apply Gr.drew | apply Gr.alloc | apply Gr.gro)), c_e7.gr (by repeat (first | exact Gr.refl _ | apply Gr.drewN | apply Gr.drew | apply Gr.alloc | apply Gr.gro)), c_e8.gr (by repeat (first | exact Gr.refl _ | apply Gr.drewN | apply Gr.drew | apply Gr.alloc | apply Gr.gro)), c_e9.gr (by repeat (first | exact Gr.refl _ | apply Gr.drewN | apply Gr.drew | apply Gr.alloc | apply Gr.gro)), c_e10.gr (by repeat (first | exact Gr.refl _ | apply Gr.drewN | apply Gr.drew | apply Gr.alloc | apply Gr.gro)), c_e11.gr (by repeat (first | exact Gr.refl _ | apply Gr.drewN | apply Gr.drew | apply Gr.alloc | apply Gr.gro)), c_e13.gr (by repeat (first | exact Gr.refl _ | apply Gr.drewN | apply Gr.drew | apply Gr.alloc | apply Gr.gro)), ⟨by simp [go_sem], by simp [go_sem], by simp [go_sem]⟩, S_p.gr (by repeat (first | exact Gr.refl _ | apply Gr.drewN | apply Gr.drew | apply Gr.alloc | apply Gr.gro))⟩
  clear HV
  obtain ⟨e15, rfl, rfl, HV⟩ := hcut
  go_upto_region 10 with fail
  go_cut [17, 18] from 62 to 68 (fun a0 a1 wx => ∃ e17 : Nat, a0 = .pointer (some ⟨e17, 0, none⟩) ∧ a1 = .int .i64 503 ∧ Hid (Gr w wx ∧ Cl wx (w.heap.size) a ∧ Cl wx (w.heap.size + 1) b ∧ Cv wx e7 k p (dl m) n q ∧ Cl wx e8 m ∧ Cl wx e9 x ∧ Cl wx e10 y ∧ Cl wx e11 t ∧ Cl wx e13 f ∧ Cl wx e15 g ∧ Cl wx e17 r ∧ Sl wx p m))
  case first =>
    have ⟨G, c_w_heap_size, c__w_heap_size_1_, c_e7, c_e8, c_e9, c_e10, c_e11, c_e13, c_e15, S_p⟩ := HV.out
    have ⟨hc_w_heap_size, fc_w_heap_size, pc_w_heap_size⟩ := c_w_heap_size
    have ⟨hc__w_heap_size_1_, fc__w_heap_size_1_, pc__w_heap_size_1_⟩ := c__w_heap_size_1_
    have ⟨hc_e7, fc_e7, pc_e7⟩ := c_e7
    have h0c_e7 := (c_e7).at0
    have h1c_e7 := (c_e7).at1
    have ⟨hc_e8, fc_e8, pc_e8⟩ := c_e8
    have ⟨hc_e9, fc_e9, pc_e9⟩ := c_e9
    have ⟨hc_e10, fc_e10, pc_e10⟩ := c_e10
    have ⟨hc_e11, fc_e11, pc_e11⟩ := c_e11
    have ⟨hc_e13, fc_e13, pc_e13⟩ := c_e13
    have ⟨hc_e15, fc_e15, pc_e15⟩ := c_e15
    go_wp2_with (first
        | (go_at_call_of 29 ((#[.int .i64 k, .agg (nw 9 t)] : Array Value)); refine (S3.out _).mono ?_; rintro e w' ⟨rfl, g4, rfl⟩)
        | (go_at_call 18; refine (num_any _ _).mono ?_; rintro e w' ⟨rfl, rfl⟩))
    go_meet
    exact ⟨_, rfl, rfl, G.trans (by repeat (first | exact Gr.refl _ | apply Gr.drewN | apply Gr.drew | apply Gr.alloc | apply Gr.gro)), c_w_heap_size.gr (by repeat (first | exact Gr.refl _ | apply Gr.drewN | apply Gr.drew | apply Gr.alloc | apply Gr.gro)), c__w_heap_size_1_.gr (by repeat (first | exact Gr.refl _ | apply Gr.drewN | apply Gr.drew | apply Gr.alloc | apply Gr.gro)), c_e7.gr (by repeat (first | exact Gr.refl _ | apply Gr.drewN | apply Gr.drew | apply Gr.alloc | apply Gr.gro)), c_e8.gr (by repeat (first | exact Gr.refl _ | apply Gr.drewN | apply Gr.drew | apply Gr.alloc | apply Gr.gro)), c_e9.gr (by repeat (first | exact Gr.refl _ | apply Gr.drewN | apply Gr.drew | apply Gr.alloc | apply Gr.gro)), c_e10.gr (by repeat (first | exact Gr.refl _ | apply Gr.drewN | apply Gr.drew | apply Gr.alloc | apply Gr.gro)), c_e11.gr (by repeat (first | exact Gr.refl _ | apply Gr.drewN | apply Gr.drew | apply Gr.alloc | apply Gr.gro)), c_e13.gr (by repeat (first | exact Gr.refl _ | apply Gr.drewN | apply Gr.drew | apply Gr.alloc | apply Gr.gro)), c_e15.gr (by repeat (first | exact Gr.refl _ | apply Gr.drewN | apply Gr.drew | apply Gr.alloc | apply Gr.gro)), ⟨by simp [go_sem], by simp [go_sem], by simp [go_sem]⟩, S_p.gr (by repeat (first | exact Gr.refl _ | apply Gr.drewN | apply Gr.drew | apply Gr.alloc | apply Gr.gro))⟩
  clear HV
  obtain ⟨e17, rfl, rfl, HV⟩ := hcut
  go_upto_region 11 with fail
  have ⟨G, c_w_heap_size, c__w_heap_size_1_, c_e7, c_e8, c_e9, c_e10, c_e11, c_e13, c_e15, c_e17, S_p⟩ := HV.out
  have ⟨hc_w_heap_size, fc_w_heap_size, pc_w_heap_size⟩ := c_w_heap_size
  have ⟨hc__w_heap_size_1_, fc__w_heap_size_1_, pc__w_heap_size_1_⟩ := c__w_heap_size_1_
  have ⟨hc_e7, fc_e7, pc_e7⟩ := c_e7
  have h0c_e7 := (c_e7).at0
  have h1c_e7 := (c_e7).at1
  have ⟨hc_e8, fc_e8, pc_e8⟩ := c_e8
  have ⟨hc_e9, fc_e9, pc_e9⟩ := c_e9
  have ⟨hc_e10, fc_e10, pc_e10⟩ := c_e10
  have ⟨hc_e11, fc_e11, pc_e11⟩ := c_e11
  have ⟨hc_e13, fc_e13, pc_e13⟩ := c_e13
  have ⟨hc_e15, fc_e15, pc_e15⟩ := c_e15
  have ⟨hc_e17, fc_e17, pc_e17⟩ := c_e17
  clear HV
  go_wp2_with (first
      | (go_at_call_of 32 ((#[.agg (cvA k p (dl m) n q), .agg (nw 9 a)] : Array Value)); refine (B1.out p n q _ (S_p.gr (by repeat (first | exact Gr.refl _ | apply Gr.drewN | apply Gr.drew | apply Gr.alloc | apply Gr.gro)))).mono ?_; rintro e w' ⟨rfl, g5, rfl⟩)
      | (go_at_call_of 32 ((#[.agg (cvA k p (dl m) n q), .agg (nw 9 b)] : Array Value)); refine (B2.out p n q _ (S_p.gr (by repeat (first | exact Gr.refl _ | apply Gr.drewN | apply Gr.drew | apply Gr.alloc | apply Gr.gro)))).mono ?_; rintro e w' ⟨rfl, g6, rfl⟩)
      | (go_at_call_of 16 ((#[.int .i64 k, .agg (nw 9 x), .agg (nw 9 y)] : Array Value)); refine (M1.out _).mono ?_; rintro e w' ⟨rfl, g7, rfl⟩)
      | (go_at_call_of 29 ((#[.int .i64 k, .agg (nw 9 x)] : Array Value)); refine (S1.out _).mono ?_; rintro e w' ⟨rfl, g8, rfl⟩)
      | (go_at_call_of 29 ((#[.int .i64 k, .agg (nw 9 y)] : Array Value)); refine (S2.out _).mono ?_; rintro e w' ⟨rfl, g9, rfl⟩)
      | (go_at_call_of 29 ((#[.int .i64 k, .agg (nw 9 t)] : Array Value)); refine (S3.out _).mono ?_; rintro e w' ⟨rfl, g10, rfl⟩)
      | (go_at_call 18; refine (num_any _ _).mono ?_; rintro e w' ⟨rfl, rfl⟩))
  go_ret
  refine ⟨rfl, ?_⟩
  repeat (first | exact G | apply Gr.drewN | apply Gr.drew | apply Gr.alloc | apply Gr.gro)
set_option maxRecDepth 100000 in
set_option maxHeartbeats 4000000 in
theorem fprod_2 (id : Int) (k a b : Nat) (h1 : 1 ≤ k) (h2 : k ≤ 15) (ha : a < M) (hb : b < M) (hz : a % pN k ≠ 0 ∧ b % pN k ≠ 0) (q1 : sqE k (a % pN k) = 503) (q2 : sqE k (b % pN k) = 0) (q3 : sqE k (a % pN k * (b % pN k) % pN k) = 503)
    (HO : ∀ w, Calls Try.prog 34 #[.int .i64 id] w fun e w' => ∃ p n q, e = .returned (.tuple #[.agg (cvA k p (dl (pN k)) n q), .agg (nw 9 (pN k))]) ∧ Sl w' p (pN k) ∧ Gr w w') (w : World) :
    Calls Try.prog 8 #[.int .i64 id, .agg (nw 9 a), .agg (nw 9 b)] w fun e w' => e = .returned (.bool true) ∧ Gr w w' := by
  have hB := pN_bd k h1 h2
  have hdl := pN_dl k h1 h2
  have hprm := prm_pN k h1 h2
  obtain ⟨m, hm⟩ : ∃ m, pN k = m := ⟨_, rfl⟩
  have FA := fun a b ha hb w => fAdd_ok k a b h1 h2 ha hb w
  have FSu := fun a b ha hb w => fSub_ok k a b h1 h2 ha hb w
  have FR := fun W hW w => fReduce_ok k W h1 h2 hW w
  have FM := fun a b ha hb w => fMul_ok k a b h1 h2 ha hb w
  have FI := fun a h0 ha hg => fInv_ok k a h1 h2 h0 ha hg
  have FZ := fun w => fInv_zero k h1 h2 w
  rw [hm] at hB hdl hprm FA FSu FR FM FI HO
  obtain ⟨x, hx⟩ : ∃ x, a % m = x := ⟨_, rfl⟩
  obtain ⟨y, hy⟩ : ∃ y, b % m = y := ⟨_, rfl⟩
  have hxm : x < m := by rw [← hx]; exact Nat.mod_lt _ (by omega)
  have hym : y < m := by rw [← hy]; exact Nat.mod_lt _ (by omega)
  have FQ1 := fun a ha w => fSqrt_ok k a h1 h2 ha w
  rw [hm] at FQ1
  obtain ⟨t, ht⟩ : ∃ t, x * y % m = t := ⟨_, rfl⟩
  have htm : t < m := by rw [← ht]; exact Nat.mod_lt _ (by omega)
  rw [hm, hx] at q1
  rw [hm, hy] at q2
  rw [hm, hx, hy, ht] at q3
  rw [hm, hx, hy] at hz
  have e1 : eqN 9 x 0 = false := eqN_no x 0 (by omega) M_pos hz.1
  have e2 : eqN 9 y 0 = false := eqN_no y 0 (by omega) M_pos hz.2
  obtain ⟨f, hf⟩ : ∃ f, sqR k x = f := ⟨_, rfl⟩
  obtain ⟨g, hgg⟩ : ∃ f, sqR k y = f := ⟨_, rfl⟩
  obtain ⟨r, hr⟩ : ∃ f, sqR k t = f := ⟨_, rfl⟩
  have B1 : Hid (∀ (p : Option Addr) (n : Nat) (q : Nat → Option Addr × Nat × Nat) w', Sl w' p m → Calls Try.prog 32 #[.agg (cvA k p (dl m) n q), .agg (nw 9 a)] w' fun e w'' => e = .returned (.agg (nw 9 x)) ∧ Gr w' w'') := fun p n q w' h => hx ▸ below_any k m a n p q (by omega) hdl ha w' h
  have B2 : Hid (∀ (p : Option Addr) (n : Nat) (q : Nat → Option Addr × Nat × Nat) w', Sl w' p m → Calls Try.prog 32 #[.agg (cvA k p (dl m) n q), .agg (nw 9 b)] w' fun e w'' => e = .returned (.agg (nw 9 y)) ∧ Gr w' w'') := fun p n q w' h => hy ▸ below_any k m b n p q (by omega) hdl hb w' h
  have M1 : Hid (∀ w', Calls Try.prog 16 #[.int .i64 k, .agg (nw 9 x), .agg (nw 9 y)] w' fun e w'' => e = .returned (.tuple #[.agg (nw 9 t), .int .i64 0]) ∧ Gr w' w'') := fun w => ht ▸ FM x y hxm hym w
  have S1 : Hid (∀ w', Calls Try.prog 29 #[.int .i64 k, .agg (nw 9 x)] w' fun e w'' => e = .returned (.tuple #[.agg (nw 9 f), .int .i64 503]) ∧ Gr w' w'') := fun w => by
    have := FQ1 x hxm w
    rw [hf, q1] at this
    exact this
  have S2 : Hid (∀ w', Calls Try.prog 29 #[.int .i64 k, .agg (nw 9 y)] w' fun e w'' => e = .returned (.tuple #[.agg (nw 9 g), .int .i64 0]) ∧ Gr w' w'') := fun w => by
    have := FQ1 y hym w
    rw [hgg, q2] at this
    exact this
  have S3 : Hid (∀ w', Calls Try.prog 29 #[.int .i64 k, .agg (nw 9 t)] w' fun e w'' => e = .returned (.tuple #[.agg (nw 9 r), .int .i64 503]) ∧ Gr w' w'') := fun w => by
    have := FQ1 t htm w
    rw [hr, q3] at this
    exact this
  have HO' : Hid (∀ w, Calls Try.prog 34 #[.int .i64 id] w fun e w' => ∃ p n q, e = .returned (.tuple #[.agg (cvA k p (dl m) n q), .agg (nw 9 m)]) ∧ Sl w' p m ∧ Gr w w') := HO
  clear HO FA FSu FR FM FI FZ hprm hB hdl hm h1 h2 hx hy hxm hym ha hb hz FQ1 ht htm q1 q2 q3 hf hgg hr
  go_enter Try.func8, Try.ntmps8
  go_upto_region 3 with (go_at_call 19; refine (awake5_any _).mono ?_; rintro e w' ⟨rfl, gaw, rfl⟩)
  refine gen_w (fun v => Hid (Gr w v ∧ Cl v w.heap.size a ∧ Cl v (w.heap.size + 1) b)) ⟨(by repeat (first | exact Gr.refl _ | apply Gr.drewN | apply Gr.drew | apply Gr.alloc | apply Gr.gro)), ⟨by simp [go_sem], by simp [go_sem], by simp [go_sem]⟩, ⟨by simp [go_sem], by simp [go_sem], by simp [go_sem]⟩⟩ ?_
  intro v0 HV
  go_cut [7, 8] from 21 to 25 (fun a0 a1 wx => ∃ (e7 e8 : Nat) (p : Option Addr) (n : Nat) (q : Nat → Option Addr × Nat × Nat), a0 = .pointer (some ⟨e7, 0, none⟩) ∧ a1 = .pointer (some ⟨e8, 0, none⟩) ∧ Hid (Gr w wx ∧ Cl wx w.heap.size a ∧ Cl wx (w.heap.size + 1) b ∧ Cv wx e7 k p (dl m) n q ∧ Cl wx e8 m ∧ Sl wx p m))
  case first =>
    have ⟨G, c0, c1⟩ := HV.out
    go_wp2_with (go_at_call 34; refine (HO'.out _).mono ?_; rintro e W1 ⟨p, n, q, rfl, S1, G1⟩)
    go_meet
    exact ⟨_, _, p, n, q, rfl, rfl, G.trans (G1.trans (by repeat (first | exact Gr.refl _ | apply Gr.drewN | apply Gr.drew | apply Gr.alloc | apply Gr.gro))), c0.gr (G1.trans (by repeat (first | exact Gr.refl _ | apply Gr.drewN | apply Gr.drew | apply Gr.alloc | apply Gr.gro))), c1.gr (G1.trans (by repeat (first | exact Gr.refl _ | apply Gr.drewN | apply Gr.drew | apply Gr.alloc | apply Gr.gro))), ⟨by simp [go_sem], by simp [go_sem], by simp [go_sem]⟩, ⟨by simp [go_sem], by simp [go_sem], by simp [go_sem]⟩, S1.gr (by repeat (first | exact Gr.refl _ | apply Gr.drewN | apply Gr.drew | apply Gr.alloc | apply Gr.gro))⟩
  clear HV
  obtain ⟨e7, e8, p, n, q, rfl, rfl, HV⟩ := hcut
  go_upto_region 4 with fail
  go_cut [9, 10] from 26 to 31 (fun a0 a1 wx => ∃ e9 e10 : Nat, a0 = .pointer (some ⟨e9, 0, none⟩) ∧ a1 = .pointer (some ⟨e10, 0, none⟩) ∧ Hid (Gr w wx ∧ Cl wx (w.heap.size) a ∧ Cl wx (w.heap.size + 1) b ∧ Cv wx e7 k p (dl m) n q ∧ Cl wx e8 m ∧ Cl wx e9 x ∧ Cl wx e10 y ∧ Sl wx p m))
  case first =>
    have ⟨G, c_w_heap_size, c__w_heap_size_1_, c_e7, c_e8, S_p⟩ := HV.out
    have ⟨hc_w_heap_size, fc_w_heap_size, pc_w_heap_size⟩ := c_w_heap_size
    have ⟨hc__w_heap_size_1_, fc__w_heap_size_1_, pc__w_heap_size_1_⟩ := c__w_heap_size_1_
    have ⟨hc_e7, fc_e7, pc_e7⟩ := c_e7
    have h0c_e7 := (c_e7).at0
    have h1c_e7 := (c_e7).at1
    have ⟨hc_e8, fc_e8, pc_e8⟩ := c_e8
    refine wp_region_mix (by kernel_rfl) (by kernel_rfl) (RG _ (fun i => match i with | 0 => some (.agg (cvA k p (dl m) n q)) | 1 => some (.agg (nw 9 a)) | 2 => some (.agg (nw 9 x)) | 3 => some (.agg (cvA k p (dl m) n q)) | 4 => some (.agg (nw 9 b)) | 5 => some (.agg (nw 9 y)) | _ => none) (fun i => match i with | 6 => some (nw 9 0) | 7 => some (nw 9 0) | _ => none) (fun i => match i with | 6 => some (8, nw 9 x) | 7 => some (9, nw 9 y) | _ => none)) (RG.start _ _ _ _ _ _) ?hs ?hf
    case hs =>
      intro listed vals a1 v1 i o hz hR hF ho hl hd
      have hks : ∀ (j k : Nat) (r : Array Value), (match j with | 6 => some (8, nw 9 x) | 7 => some (9, nw 9 y) | _ => (none : Option (Nat × Array Value))) = some (k, r) → (j = 6 ∧ k = 8) ∨ (j = 7 ∧ k = 9) := fun j k r h => by
        split at h <;> simp_all
      have Hc_w_heap_size : blk v1 (w.heap.size) = nw 9 a := (blk_of _ _ _ (hR.1.below.block (w.heap.size) (c_w_heap_size.p))).trans (c_w_heap_size.h)
      have Hc__w_heap_size_1_ : blk v1 ((w.heap.size + 1)) = nw 9 b := (blk_of _ _ _ (hR.1.below.block ((w.heap.size + 1)) (c__w_heap_size_1_.p))).trans (c__w_heap_size_1_.h)
      have Hc_e7 : blk v1 (e7) = cvA k p (dl m) n q := (blk_of _ _ _ (hR.1.below.block (e7) (c_e7.p))).trans (c_e7.h)
      have Hc_e8 : blk v1 (e8) = nw 9 m := (blk_of _ _ _ (hR.1.below.block (e8) (c_e8.p))).trans (c_e8.h)
      have hi : i < 10 := by simpa using (Array.getElem?_eq_some_iff.1 ho).1
      have hil : i < listed.size := by rw [hz]; simpa using hi
      obtain rfl | rfl | rfl | rfl | rfl | rfl | rfl | rfl | rfl | rfl : i = 0 ∨ i = 1 ∨ i = 2 ∨ i = 3 ∨ i = 4 ∨ i = 5 ∨ i = 6 ∨ i = 7 ∨ i = 8 ∨ i = 9 := by omega
      · obtain rfl := Option.some.inj ho
        have f0 := hF.old (s := 7) (v := .pointer (some ⟨e7, 0, none⟩)) (by kernel_rfl) rfl
        exact wp_val (.agg (cvA k p (dl m) n q)) (by simp [go_sem, f0, Hc_e7]) ⟨_, rfl, RG.quiet 0 _ hil rfl rfl (fun j k r h => by have := hks j k r h; omega) (Gr.refl _) hR⟩
      · obtain rfl := Option.some.inj ho
        have f0 := hF.old (s := 4) (v := .pointer (some ⟨w.heap.size, 0, none⟩)) (by kernel_rfl) rfl
        exact wp_val (.agg (nw 9 a)) (by simp [go_sem, f0, Hc_w_heap_size]) ⟨_, rfl, RG.quiet 1 _ hil rfl rfl (fun j k r h => by have := hks j k r h; omega) (Gr.refl _) hR⟩
      · obtain rfl := Option.some.inj ho
        have l0 := hd ⟨0, .data⟩ (by simp) rfl
        have f0 := hF.at (s := 26) (i := 0) (by kernel_rfl) (by simp) l0
        rw [hR.2.1 0 _ l0 rfl] at f0
        have l1 := hd ⟨1, .data⟩ (by simp) rfl
        have f1 := hF.at (s := 27) (i := 1) (by kernel_rfl) (by simp) l1
        rw [hR.2.1 1 _ l1 rfl] at f1
        exact wp_ret (.agg (nw 9 x)) (by simp [go_sem, f0, f1]) (B1.out p n q _ (S_p.gr hR.1)) (fun w2 hg => ⟨_, rfl, RG.quiet 2 _ hil rfl rfl (fun j k r h => by have := hks j k r h; omega) hg hR⟩)
      · obtain rfl := Option.some.inj ho
        have f0 := hF.old (s := 7) (v := .pointer (some ⟨e7, 0, none⟩)) (by kernel_rfl) rfl
        exact wp_val (.agg (cvA k p (dl m) n q)) (by simp [go_sem, f0, Hc_e7]) ⟨_, rfl, RG.quiet 3 _ hil rfl rfl (fun j k r h => by have := hks j k r h; omega) (Gr.refl _) hR⟩
      · obtain rfl := Option.some.inj ho
        have f0 := hF.old (s := 5) (v := .pointer (some ⟨(w.heap.size + 1), 0, none⟩)) (by kernel_rfl) rfl
        exact wp_val (.agg (nw 9 b)) (by simp [go_sem, f0, Hc__w_heap_size_1_]) ⟨_, rfl, RG.quiet 4 _ hil rfl rfl (fun j k r h => by have := hks j k r h; omega) (Gr.refl _) hR⟩
      · obtain rfl := Option.some.inj ho
        have l0 := hd ⟨3, .data⟩ (by simp) rfl
        have f0 := hF.at (s := 29) (i := 3) (by kernel_rfl) (by simp) l0
        rw [hR.2.1 3 _ l0 rfl] at f0
        have l1 := hd ⟨4, .data⟩ (by simp) rfl
        have f1 := hF.at (s := 30) (i := 4) (by kernel_rfl) (by simp) l1
        rw [hR.2.1 4 _ l1 rfl] at f1
        exact wp_ret (.agg (nw 9 y)) (by simp [go_sem, f0, f1]) (B2.out p n q _ (S_p.gr hR.1)) (fun w2 hg => ⟨_, rfl, RG.quiet 5 _ hil rfl rfl (fun j k r h => by have := hks j k r h; omega) hg hR⟩)
      · obtain rfl := Option.some.inj ho
        exact wp_val (.pointer (some ⟨v1.heap.size, 0, none⟩)) (w' := v1.alloc (.cells (nw 9 0) 25)) (by simp [go_sem]) ⟨_, rfl, RG.alloc 6 (nw 9 0) 25 hil hl rfl rfl (fun j k r h => by have := hks j k r h; omega) hR⟩
      · obtain rfl := Option.some.inj ho
        exact wp_val (.pointer (some ⟨v1.heap.size, 0, none⟩)) (w' := v1.alloc (.cells (nw 9 0) 25)) (by simp [go_sem]) ⟨_, rfl, RG.alloc 7 (nw 9 0) 25 hil hl rfl rfl (fun j k r h => by have := hks j k r h; omega) hR⟩
      · obtain rfl := Option.some.inj ho
        have l0 := hd ⟨6, .data⟩ (by simp) rfl
        have l1 := hd ⟨2, .data⟩ (by simp) rfl
        obtain ⟨B, h4, h5⟩ := hR.2.2.2
        obtain ⟨e1, e2, e3, e4, e5⟩ := h4 6 (nw 9 0) l0 rfl
        simp only [hl] at e5
        replace e5 : blk v1 (B 6) = nw 9 0 := e5
        have f0 := hF.at (s := 9) (i := 6) (by kernel_rfl) (by simp) l0
        rw [e1] at f0
        have f1 := hF.at (s := 28) (i := 2) (by kernel_rfl) (by simp) l1
        rw [hR.2.1 2 _ l1 rfl] at f1
        exact wp_skip (w' := setBlk v1 (B 6) (nw 9 x)) (by simp [go_sem, f0, f1, e4, e5]) ⟨undef, rfl, RG.store 8 6 (nw 9 0) (nw 9 x) (B 6) hil hl rfl rfl rfl l0 rfl (by rw [nw_size]; decide) e1 (fun k r h => by have := hks k _ r h; omega) hR⟩
      · obtain rfl := Option.some.inj ho
        have l0 := hd ⟨7, .data⟩ (by simp) rfl
        have l1 := hd ⟨5, .data⟩ (by simp) rfl
        obtain ⟨B, h4, h5⟩ := hR.2.2.2
        obtain ⟨e1, e2, e3, e4, e5⟩ := h4 7 (nw 9 0) l0 rfl
        simp only [hl] at e5
        replace e5 : blk v1 (B 7) = nw 9 0 := e5
        have f0 := hF.at (s := 10) (i := 7) (by kernel_rfl) (by simp) l0
        rw [e1] at f0
        have f1 := hF.at (s := 31) (i := 5) (by kernel_rfl) (by simp) l1
        rw [hR.2.1 5 _ l1 rfl] at f1
        exact wp_skip (w' := setBlk v1 (B 7) (nw 9 y)) (by simp [go_sem, f0, f1, e4, e5]) ⟨undef, rfl, RG.store 9 7 (nw 9 0) (nw 9 y) (B 7) hil hl rfl rfl rfl l0 rfl (by rw [nw_size]; decide) e1 (fun k r h => by have := hks k _ r h; omega) hR⟩
    case hf =>
      intro listed vals a1 v1 hall hR hF
      have Hc_w_heap_size : blk v1 (w.heap.size) = nw 9 a := (blk_of _ _ _ (hR.1.below.block (w.heap.size) (c_w_heap_size.p))).trans (c_w_heap_size.h)
      have pHc_w_heap_size : Pre (w.heap.size + 1) v1.heap.size := Nat.le_trans (show w.heap.size + 1 ≤ _ from c_w_heap_size.p) hR.1.below.size
      have Hc__w_heap_size_1_ : blk v1 ((w.heap.size + 1)) = nw 9 b := (blk_of _ _ _ (hR.1.below.block ((w.heap.size + 1)) (c__w_heap_size_1_.p))).trans (c__w_heap_size_1_.h)
      have pHc__w_heap_size_1_ : Pre ((w.heap.size + 1) + 1) v1.heap.size := Nat.le_trans (show (w.heap.size + 1) + 1 ≤ _ from c__w_heap_size_1_.p) hR.1.below.size
      have Hc_e7 : blk v1 (e7) = cvA k p (dl m) n q := (blk_of _ _ _ (hR.1.below.block (e7) (c_e7.p))).trans (c_e7.h)
      have pHc_e7 : Pre (e7 + 1) v1.heap.size := Nat.le_trans (show e7 + 1 ≤ _ from c_e7.p) hR.1.below.size
      have Hc_e8 : blk v1 (e8) = nw 9 m := (blk_of _ _ _ (hR.1.below.block (e8) (c_e8.p))).trans (c_e8.h)
      have pHc_e8 : Pre (e8 + 1) v1.heap.size := Nat.le_trans (show e8 + 1 ≤ _ from c_e8.p) hR.1.below.size
      have hV := hR.2.1
      obtain ⟨B, h4, h5⟩ := hR.2.2.2
      have x0 := hV 0 _ (hall 0 (by simp)) rfl
      have x1 := hV 1 _ (hall 1 (by simp)) rfl
      have x2 := hV 2 _ (hall 2 (by simp)) rfl
      have x3 := hV 3 _ (hall 3 (by simp)) rfl
      have x4 := hV 4 _ (hall 4 (by simp)) rfl
      have x5 := hV 5 _ (hall 5 (by simp)) rfl
      obtain ⟨x6, q6, p6, z6, y6⟩ := h4 6 _ (hall 6 (by simp)) rfl
      simp only [hall 8 (by simp), if_true] at y6
      replace p6 : Pre (B 6 + 1) v1.heap.size := p6
      replace y6 : blk v1 (B 6) = nw 9 x := y6
      obtain ⟨x7, q7, p7, z7, y7⟩ := h4 7 _ (hall 7 (by simp)) rfl
      simp only [hall 9 (by simp), if_true] at y7
      replace p7 : Pre (B 7 + 1) v1.heap.size := p7
      replace y7 : blk v1 (B 7) = nw 9 y := y7
      have hb1 := hR.1
      rw [hF.final (by kernel_rfl) hall]
      simp only [putFrom, Act.put, List.setIfInBounds_toArray, List.set_cons_zero, List.set_cons_succ, x0, x1, x2, x3, x4, x5, x6, x7]
      generalize B 6 = b6 at *
      generalize B 7 = b7 at *
      clear hV h4 h5 hR hF hall x0 x1 x2 x3 x4 x5 x6 x7
      go_wp2_with fail
      go_meet
      exact ⟨b6, b7, rfl, rfl, G.trans hb1, c_w_heap_size.gr hb1, c__w_heap_size_1_.gr hb1, c_e7.gr hb1, c_e8.gr hb1, ⟨y6, z6, p6⟩, ⟨y7, z7, p7⟩, S_p.gr hb1⟩
  clear HV
  obtain ⟨e9, e10, rfl, rfl, HV⟩ := hcut
  have ⟨G, c_w_heap_size, c__w_heap_size_1_, c_e7, c_e8, c_e9, c_e10, S_p⟩ := HV.out
  have ⟨hc_w_heap_size, fc_w_heap_size, pc_w_heap_size⟩ := c_w_heap_size
  have ⟨hc__w_heap_size_1_, fc__w_heap_size_1_, pc__w_heap_size_1_⟩ := c__w_heap_size_1_
  have ⟨hc_e7, fc_e7, pc_e7⟩ := c_e7
  have h0c_e7 := (c_e7).at0
  have h1c_e7 := (c_e7).at1
  have ⟨hc_e8, fc_e8, pc_e8⟩ := c_e8
  have ⟨hc_e9, fc_e9, pc_e9⟩ := c_e9
  have ⟨hc_e10, fc_e10, pc_e10⟩ := c_e10
  go_upto_region 7 with (first
      | (go_at_call 18; refine (num_any _ _).mono ?_; rintro e w' ⟨rfl, rfl⟩))
  go_cut [11, 12] from 40 to 47 (fun a0 a1 wx => ∃ e11 : Nat, a0 = .pointer (some ⟨e11, 0, none⟩) ∧ a1 = .int .i64 0 ∧ Hid (Gr w wx ∧ Cl wx (w.heap.size) a ∧ Cl wx (w.heap.size + 1) b ∧ Cv wx e7 k p (dl m) n q ∧ Cl wx e8 m ∧ Cl wx e9 x ∧ Cl wx e10 y ∧ Cl wx e11 t ∧ Sl wx p m))
  case first =>
    have ⟨G, c_w_heap_size, c__w_heap_size_1_, c_e7, c_e8, c_e9, c_e10, S_p⟩ := HV.out
    have ⟨hc_w_heap_size, fc_w_heap_size, pc_w_heap_size⟩ := c_w_heap_size
    have ⟨hc__w_heap_size_1_, fc__w_heap_size_1_, pc__w_heap_size_1_⟩ := c__w_heap_size_1_
    have ⟨hc_e7, fc_e7, pc_e7⟩ := c_e7
    have h0c_e7 := (c_e7).at0
    have h1c_e7 := (c_e7).at1
    have ⟨hc_e8, fc_e8, pc_e8⟩ := c_e8
    have ⟨hc_e9, fc_e9, pc_e9⟩ := c_e9
    have ⟨hc_e10, fc_e10, pc_e10⟩ := c_e10
    go_wp2_with (first
        | (go_at_call_of 16 ((#[.int .i64 k, .agg (nw 9 x), .agg (nw 9 y)] : Array Value)); refine (M1.out _).mono ?_; rintro e w' ⟨rfl, g1, rfl⟩)
        | (go_at_call 18; refine (num_any _ _).mono ?_; rintro e w' ⟨rfl, rfl⟩))
    go_meet
    exact ⟨_, rfl, rfl, G.trans (by repeat (first | exact Gr.refl _ | apply Gr.drewN | apply Gr.drew | apply Gr.alloc | apply Gr.gro)), c_w_heap_size.gr (by repeat (first | exact Gr.refl _ | apply Gr.drewN | apply Gr.drew | apply Gr.alloc | apply Gr.gro)), c__w_heap_size_1_.gr (by repeat (first | exact Gr.refl _ | apply Gr.drewN | apply Gr.drew | apply Gr.alloc | apply Gr.gro)), c_e7.gr (by repeat (first | exact Gr.refl _ | apply Gr.drewN | apply Gr.drew | apply Gr.alloc | apply Gr.gro)), c_e8.gr (by repeat (first | exact Gr.refl _ | apply Gr.drewN | apply Gr.drew | apply Gr.alloc | apply Gr.gro)), c_e9.gr (by repeat (first | exact Gr.refl _ | apply Gr.drewN | apply Gr.drew | apply Gr.alloc | apply Gr.gro)), c_e10.gr (by repeat (first | exact Gr.refl _ | apply Gr.drewN | apply Gr.drew | apply Gr.alloc | apply Gr.gro)), ⟨by simp [go_sem], by simp [go_sem], by simp [go_sem]⟩, S_p.gr (by repeat (first | exact Gr.refl _ | apply Gr.drewN | apply Gr.drew | apply Gr.alloc | apply Gr.gro))⟩
  clear HV
  obtain ⟨e11, rfl, rfl, HV⟩ := hcut
  go_upto_region 8 with fail
  go_cut [13, 14] from 48 to 54 (fun a0 a1 wx => ∃ e13 : Nat, a0 = .pointer (some ⟨e13, 0, none⟩) ∧ a1 = .int .i64 503 ∧ Hid (Gr w wx ∧ Cl wx (w.heap.size) a ∧ Cl wx (w.heap.size + 1) b ∧ Cv wx e7 k p (dl m) n q ∧ Cl wx e8 m ∧ Cl wx e9 x ∧ Cl wx e10 y ∧ Cl wx e11 t ∧ Cl wx e13 f ∧ Sl wx p m))
  case first =>
    have ⟨G, c_w_heap_size, c__w_heap_size_1_, c_e7, c_e8, c_e9, c_e10, c_e11, S_p⟩ := HV.out
    have ⟨hc_w_heap_size, fc_w_heap_size, pc_w_heap_size⟩ := c_w_heap_size
    have ⟨hc__w_heap_size_1_, fc__w_heap_size_1_, pc__w_heap_size_1_⟩ := c__w_heap_size_1_
    have ⟨hc_e7, fc_e7, pc_e7⟩ := c_e7
    have h0c_e7 := (c_e7).at0
    have h1c_e7 := (c_e7).at1
    have ⟨hc_e8, fc_e8, pc_e8⟩ := c_e8
    have ⟨hc_e9, fc_e9, pc_e9⟩ := c_e9
    have ⟨hc_e10, fc_e10, pc_e10⟩ := c_e10
    have ⟨hc_e11, fc_e11, pc_e11⟩ := c_e11
    go_wp2_with (first
        | (go_at_call_of 29 ((#[.int .i64 k, .agg (nw 9 x)] : Array Value)); refine (S1.out _).mono ?_; rintro e w' ⟨rfl, g2, rfl⟩)
        | (go_at_call 18; refine (num_any _ _).mono ?_; rintro e w' ⟨rfl, rfl⟩))
    go_meet
    exact ⟨_, rfl, rfl, G.trans (by repeat (first | exact Gr.refl _ | apply Gr.drewN | apply Gr.drew | apply Gr.alloc | apply Gr.gro)), c_w_heap_size.gr (by repeat (first | exact Gr.refl _ | apply Gr.drewN | apply Gr.drew | apply Gr.alloc | apply Gr.gro)), c__w_heap_size_1_.gr (by repeat (first | exact Gr.refl _ | apply Gr.drewN | apply Gr.drew | apply Gr.alloc | apply Gr.gro)), c_e7.gr (by repeat (first | exact Gr.refl _ | apply Gr.drewN | apply Gr.drew | apply Gr.alloc | apply Gr.gro)), c_e8.gr (by repeat (first | exact Gr.refl _ | apply Gr.drewN | apply Gr.drew | apply Gr.alloc | apply Gr.gro)), c_e9.gr (by repeat (first | exact Gr.refl _ | apply Gr.drewN | apply Gr.drew | apply Gr.alloc | apply Gr.gro)), c_e10.gr (by repeat (first | exact Gr.refl _ | apply Gr.drewN | apply Gr.drew | apply Gr.alloc | apply Gr.gro)), c_e11.gr (by repeat (first | exact Gr.refl _ | apply Gr.drewN | apply Gr.drew | apply Gr.alloc | apply Gr.gro)), ⟨by simp [go_sem], by simp [go_sem], by simp [go_sem]⟩, S_p.gr (by repeat (first | exact Gr.refl _ | apply Gr.drewN | apply Gr.drew | apply Gr.alloc | apply Gr.gro))⟩
  clear HV
  obtain ⟨e13, rfl, rfl, HV⟩ := hcut
  go_upto_region 9 with fail
  go_cut [15, 16] from 55 to 61 (fun a0 a1 wx => ∃ e15 : Nat, a0 = .pointer (some ⟨e15, 0, none⟩) ∧ a1 = .int .i64 0 ∧ Hid (Gr w wx ∧ Cl wx (w.heap.size) a ∧ Cl wx (w.heap.size + 1) b ∧ Cv wx e7 k p (dl m) n q ∧ Cl wx e8 m ∧ Cl wx e9 x ∧ Cl wx e10 y ∧ Cl wx e11 t ∧ Cl wx e13 f ∧ Cl wx e15 g ∧ Sl wx p m))
  case first =>
    have ⟨G, c_w_heap_size, c__w_heap_size_1_, c_e7, c_e8, c_e9, c_e10, c_e11, c_e13, S_p⟩ := HV.out
    have ⟨hc_w_heap_size, fc_w_heap_size, pc_w_heap_size⟩ := c_w_heap_size
    have ⟨hc__w_heap_size_1_, fc__w_heap_size_1_, pc__w_heap_size_1_⟩ := c__w_heap_size_1_
    have ⟨hc_e7, fc_e7, pc_e7⟩ := c_e7
    have h0c_e7 := (c_e7).at0
    have h1c_e7 := (c_e7).at1
    have ⟨hc_e8, fc_e8, pc_e8⟩ := c_e8
    have ⟨hc_e9, fc_e9, pc_e9⟩ := c_e9
    have ⟨hc_e10, fc_e10, pc_e10⟩ := c_e10
    have ⟨hc_e11, fc_e11, pc_e11⟩ := c_e11
    have ⟨hc_e13, fc_e13, pc_e13⟩ := c_e13
    go_wp2_with (first
        | (go_at_call_of 29 ((#[.int .i64 k, .agg (nw 9 y)] : Array Value)); refine (S2.out _).mono ?_; rintro e w' ⟨rfl, g3, rfl⟩)
        | (go_at_call 18; refine (num_any _ _).mono ?_; rintro e w' ⟨rfl, rfl⟩))
    go_meet
    exact ⟨_, rfl, rfl, G.trans (by repeat (first | exact Gr.refl _ | apply Gr.drewN | apply Gr.drew | apply Gr.alloc | apply Gr.gro)), c_w_heap_size.gr (by repeat (first | exact Gr.refl _ | apply Gr.drewN | apply Gr.drew | apply Gr.alloc | apply Gr.gro)), c__w_heap_size_1_.gr (by repeat (first | exact Gr.refl _ | apply Gr.drewN | apply Gr.drew | apply Gr.alloc | apply Gr.gro)), c_e7.gr (by repeat (first | exact Gr.refl _ | apply Gr.drewN | apply Gr.drew | apply Gr.alloc | apply Gr.gro)), c_e8.gr (by repeat (first | exact Gr.refl _ | apply Gr.drewN | apply Gr.drew | apply Gr.alloc | apply Gr.gro)), c_e9.gr (by repeat (first | exact Gr.refl _ | apply Gr.drewN | apply Gr.drew | apply Gr.alloc | apply Gr.gro)), c_e10.gr (by repeat (first | exact Gr.refl _ | apply Gr.drewN | apply Gr.drew | apply Gr.alloc | apply Gr.gro)), c_e11.gr (by repeat (first | exact Gr.refl _ | apply Gr.drewN | apply Gr.drew | apply Gr.alloc | apply Gr.gro)), c_e13.gr (by repeat (first | exact Gr.refl _ | apply Gr.drewN | apply Gr.drew | apply Gr.alloc | apply Gr.gro)), ⟨by simp [go_sem], by simp [go_sem], by simp [go_sem]⟩, S_p.gr (by repeat (first | exact Gr.refl _ | apply Gr.drewN | apply Gr.drew | apply Gr.alloc | apply Gr.gro))⟩
  clear HV
  obtain ⟨e15, rfl, rfl, HV⟩ := hcut
  go_upto_region 10 with fail
  go_cut [17, 18] from 62 to 68 (fun a0 a1 wx => ∃ e17 : Nat, a0 = .pointer (some ⟨e17, 0, none⟩) ∧ a1 = .int .i64 503 ∧ Hid (Gr w wx ∧ Cl wx (w.heap.size) a ∧ Cl wx (w.heap.size + 1) b ∧ Cv wx e7 k p (dl m) n q ∧ Cl wx e8 m ∧ Cl wx e9 x ∧ Cl wx e10 y ∧ Cl wx e11 t ∧ Cl wx e13 f ∧ Cl wx e15 g ∧ Cl wx e17 r ∧ Sl wx p m))
  case first =>
    have ⟨G, c_w_heap_size, c__w_heap_size_1_, c_e7, c_e8, c_e9, c_e10, c_e11, c_e13, c_e15, S_p⟩ := HV.out
    have ⟨hc_w_heap_size, fc_w_heap_size, pc_w_heap_size⟩ := c_w_heap_size
    have ⟨hc__w_heap_size_1_, fc__w_heap_size_1_, pc__w_heap_size_1_⟩ := c__w_heap_size_1_
    have ⟨hc_e7, fc_e7, pc_e7⟩ := c_e7
    have h0c_e7 := (c_e7).at0
    have h1c_e7 := (c_e7).at1
    have ⟨hc_e8, fc_e8, pc_e8⟩ := c_e8
    have ⟨hc_e9, fc_e9, pc_e9⟩ := c_e9
    have ⟨hc_e10, fc_e10, pc_e10⟩ := c_e10
    have ⟨hc_e11, fc_e11, pc_e11⟩ := c_e11
    have ⟨hc_e13, fc_e13, pc_e13⟩ := c_e13
    have ⟨hc_e15, fc_e15, pc_e15⟩ := c_e15
    go_wp2_with (first
        | (go_at_call_of 29 ((#[.int .i64 k, .agg (nw 9 t)] : Array Value)); refine (S3.out _).mono ?_; rintro e w' ⟨rfl, g4, rfl⟩)
        | (go_at_call 18; refine (num_any _ _).mono ?_; rintro e w' ⟨rfl, rfl⟩))
    go_meet
    exact ⟨_, rfl, rfl, G.trans (by repeat (first | exact Gr.refl _ | apply Gr.drewN | apply Gr.drew | apply Gr.alloc | apply Gr.gro)), c_w_heap_size.gr (by repeat (first | exact Gr.refl _ | apply Gr.drewN | apply Gr.drew | apply Gr.alloc | apply Gr.gro)), c__w_heap_size_1_.gr (by repeat (first | exact Gr.refl _ | apply Gr.drewN | apply Gr.drew | apply Gr.alloc | apply Gr.gro)), c_e7.gr (by repeat (first | exact Gr.refl _ | apply Gr.drewN | apply Gr.drew | apply Gr.alloc | apply Gr.gro)), c_e8.gr (by repeat (first | exact Gr.refl _ | apply Gr.drewN | apply Gr.drew | apply Gr.alloc | apply Gr.gro)), c_e9.gr (by repeat (first | exact Gr.refl _ | apply Gr.drewN | apply Gr.drew | apply Gr.alloc | apply Gr.gro)), c_e10.gr (by repeat (first | exact Gr.refl _ | apply Gr.drewN | apply Gr.drew | apply Gr.alloc | apply Gr.gro)), c_e11.gr (by repeat (first | exact Gr.refl _ | apply Gr.drewN | apply Gr.drew | apply Gr.alloc | apply Gr.gro)), c_e13.gr (by repeat (first | exact Gr.refl _ | apply Gr.drewN | apply Gr.drew | apply Gr.alloc | apply Gr.gro)), c_e15.gr (by repeat (first | exact Gr.refl _ | apply Gr.drewN | apply Gr.drew | apply Gr.alloc | apply Gr.gro)), ⟨by simp [go_sem], by simp [go_sem], by simp [go_sem]⟩, S_p.gr (by repeat (first | exact Gr.refl _ | apply Gr.drewN | apply Gr.drew | apply Gr.alloc | apply Gr.gro))⟩
  clear HV
  obtain ⟨e17, rfl, rfl, HV⟩ := hcut
  go_upto_region 11 with fail
  have ⟨G, c_w_heap_size, c__w_heap_size_1_, c_e7, c_e8, c_e9, c_e10, c_e11, c_e13, c_e15, c_e17, S_p⟩ := HV.out
  have ⟨hc_w_heap_size, fc_w_heap_size, pc_w_heap_size⟩ := c_w_heap_size
  have ⟨hc__w_heap_size_1_, fc__w_heap_size_1_, pc__w_heap_size_1_⟩ := c__w_heap_size_1_
  have ⟨hc_e7, fc_e7, pc_e7⟩ := c_e7
  have h0c_e7 := (c_e7).at0
  have h1c_e7 := (c_e7).at1
  have ⟨hc_e8, fc_e8, pc_e8⟩ := c_e8
  have ⟨hc_e9, fc_e9, pc_e9⟩ := c_e9
  have ⟨hc_e10, fc_e10, pc_e10⟩ := c_e10
  have ⟨hc_e11, fc_e11, pc_e11⟩ := c_e11
  have ⟨hc_e13, fc_e13, pc_e13⟩ := c_e13
  have ⟨hc_e15, fc_e15, pc_e15⟩ := c_e15
  have ⟨hc_e17, fc_e17, pc_e17⟩ := c_e17
  clear HV
  go_wp2_with (first
      | (go_at_call_of 32 ((#[.agg (cvA k p (dl m) n q), .agg (nw 9 a)] : Array Value)); refine (B1.out p n q _ (S_p.gr (by repeat (first | exact Gr.refl _ | apply Gr.drewN | apply Gr.drew | apply Gr.alloc | apply Gr.gro)))).mono ?_; rintro e w' ⟨rfl, g5, rfl⟩)
      | (go_at_call_of 32 ((#[.agg (cvA k p (dl m) n q), .agg (nw 9 b)] : Array Value)); refine (B2.out p n q _ (S_p.gr (by repeat (first | exact Gr.refl _ | apply Gr.drewN | apply Gr.drew | apply Gr.alloc | apply Gr.gro)))).mono ?_; rintro e w' ⟨rfl, g6, rfl⟩)
      | (go_at_call_of 16 ((#[.int .i64 k, .agg (nw 9 x), .agg (nw 9 y)] : Array Value)); refine (M1.out _).mono ?_; rintro e w' ⟨rfl, g7, rfl⟩)
      | (go_at_call_of 29 ((#[.int .i64 k, .agg (nw 9 x)] : Array Value)); refine (S1.out _).mono ?_; rintro e w' ⟨rfl, g8, rfl⟩)
      | (go_at_call_of 29 ((#[.int .i64 k, .agg (nw 9 y)] : Array Value)); refine (S2.out _).mono ?_; rintro e w' ⟨rfl, g9, rfl⟩)
      | (go_at_call_of 29 ((#[.int .i64 k, .agg (nw 9 t)] : Array Value)); refine (S3.out _).mono ?_; rintro e w' ⟨rfl, g10, rfl⟩)
      | (go_at_call 18; refine (num_any _ _).mono ?_; rintro e w' ⟨rfl, rfl⟩))
  go_ret
  refine ⟨rfl, ?_⟩
  repeat (first | exact G | apply Gr.drewN | apply Gr.drew | apply Gr.alloc | apply Gr.gro)
set_option maxRecDepth 100000 in
set_option maxHeartbeats 4000000 in
theorem fprod_3 (id : Int) (k a b : Nat) (h1 : 1 ≤ k) (h2 : k ≤ 15) (ha : a < M) (hb : b < M) (hz : a % pN k ≠ 0 ∧ b % pN k ≠ 0) (q1 : sqE k (a % pN k) = 503) (q2 : sqE k (b % pN k) = 503) (q3 : sqE k (a % pN k * (b % pN k) % pN k) = 0)
    (HO : ∀ w, Calls Try.prog 34 #[.int .i64 id] w fun e w' => ∃ p n q, e = .returned (.tuple #[.agg (cvA k p (dl (pN k)) n q), .agg (nw 9 (pN k))]) ∧ Sl w' p (pN k) ∧ Gr w w') (w : World) :
    Calls Try.prog 8 #[.int .i64 id, .agg (nw 9 a), .agg (nw 9 b)] w fun e w' => e = .returned (.bool true) ∧ Gr w w' := by
  have hB := pN_bd k h1 h2
  have hdl := pN_dl k h1 h2
  have hprm := prm_pN k h1 h2
  obtain ⟨m, hm⟩ : ∃ m, pN k = m := ⟨_, rfl⟩
  have FA := fun a b ha hb w => fAdd_ok k a b h1 h2 ha hb w
  have FSu := fun a b ha hb w => fSub_ok k a b h1 h2 ha hb w
  have FR := fun W hW w => fReduce_ok k W h1 h2 hW w
  have FM := fun a b ha hb w => fMul_ok k a b h1 h2 ha hb w
  have FI := fun a h0 ha hg => fInv_ok k a h1 h2 h0 ha hg
  have FZ := fun w => fInv_zero k h1 h2 w
  rw [hm] at hB hdl hprm FA FSu FR FM FI HO
  obtain ⟨x, hx⟩ : ∃ x, a % m = x := ⟨_, rfl⟩
  obtain ⟨y, hy⟩ : ∃ y, b % m = y := ⟨_, rfl⟩
  have hxm : x < m := by rw [← hx]; exact Nat.mod_lt _ (by omega)
  have hym : y < m := by rw [← hy]; exact Nat.mod_lt _ (by omega)
  have FQ1 := fun a ha w => fSqrt_ok k a h1 h2 ha w
  rw [hm] at FQ1
  obtain ⟨t, ht⟩ : ∃ t, x * y % m = t := ⟨_, rfl⟩
  have htm : t < m := by rw [← ht]; exact Nat.mod_lt _ (by omega)
  rw [hm, hx] at q1
  rw [hm, hy] at q2
  rw [hm, hx, hy, ht] at q3
  rw [hm, hx, hy] at hz
  have e1 : eqN 9 x 0 = false := eqN_no x 0 (by omega) M_pos hz.1
  have e2 : eqN 9 y 0 = false := eqN_no y 0 (by omega) M_pos hz.2
  obtain ⟨f, hf⟩ : ∃ f, sqR k x = f := ⟨_, rfl⟩
  obtain ⟨g, hgg⟩ : ∃ f, sqR k y = f := ⟨_, rfl⟩
  obtain ⟨r, hr⟩ : ∃ f, sqR k t = f := ⟨_, rfl⟩
  have B1 : Hid (∀ (p : Option Addr) (n : Nat) (q : Nat → Option Addr × Nat × Nat) w', Sl w' p m → Calls Try.prog 32 #[.agg (cvA k p (dl m) n q), .agg (nw 9 a)] w' fun e w'' => e = .returned (.agg (nw 9 x)) ∧ Gr w' w'') := fun p n q w' h => hx ▸ below_any k m a n p q (by omega) hdl ha w' h
  have B2 : Hid (∀ (p : Option Addr) (n : Nat) (q : Nat → Option Addr × Nat × Nat) w', Sl w' p m → Calls Try.prog 32 #[.agg (cvA k p (dl m) n q), .agg (nw 9 b)] w' fun e w'' => e = .returned (.agg (nw 9 y)) ∧ Gr w' w'') := fun p n q w' h => hy ▸ below_any k m b n p q (by omega) hdl hb w' h
  have M1 : Hid (∀ w', Calls Try.prog 16 #[.int .i64 k, .agg (nw 9 x), .agg (nw 9 y)] w' fun e w'' => e = .returned (.tuple #[.agg (nw 9 t), .int .i64 0]) ∧ Gr w' w'') := fun w => ht ▸ FM x y hxm hym w
  have S1 : Hid (∀ w', Calls Try.prog 29 #[.int .i64 k, .agg (nw 9 x)] w' fun e w'' => e = .returned (.tuple #[.agg (nw 9 f), .int .i64 503]) ∧ Gr w' w'') := fun w => by
    have := FQ1 x hxm w
    rw [hf, q1] at this
    exact this
  have S2 : Hid (∀ w', Calls Try.prog 29 #[.int .i64 k, .agg (nw 9 y)] w' fun e w'' => e = .returned (.tuple #[.agg (nw 9 g), .int .i64 503]) ∧ Gr w' w'') := fun w => by
    have := FQ1 y hym w
    rw [hgg, q2] at this
    exact this
  have S3 : Hid (∀ w', Calls Try.prog 29 #[.int .i64 k, .agg (nw 9 t)] w' fun e w'' => e = .returned (.tuple #[.agg (nw 9 r), .int .i64 0]) ∧ Gr w' w'') := fun w => by
    have := FQ1 t htm w
    rw [hr, q3] at this
    exact this
  have HO' : Hid (∀ w, Calls Try.prog 34 #[.int .i64 id] w fun e w' => ∃ p n q, e = .returned (.tuple #[.agg (cvA k p (dl m) n q), .agg (nw 9 m)]) ∧ Sl w' p m ∧ Gr w w') := HO
  clear HO FA FSu FR FM FI FZ hprm hB hdl hm h1 h2 hx hy hxm hym ha hb hz FQ1 ht htm q1 q2 q3 hf hgg hr
  go_enter Try.func8, Try.ntmps8
  go_upto_region 3 with (go_at_call 19; refine (awake5_any _).mono ?_; rintro e w' ⟨rfl, gaw, rfl⟩)
  refine gen_w (fun v => Hid (Gr w v ∧ Cl v w.heap.size a ∧ Cl v (w.heap.size + 1) b)) ⟨(by repeat (first | exact Gr.refl _ | apply Gr.drewN | apply Gr.drew | apply Gr.alloc | apply Gr.gro)), ⟨by simp [go_sem], by simp [go_sem], by simp [go_sem]⟩, ⟨by simp [go_sem], by simp [go_sem], by simp [go_sem]⟩⟩ ?_
  intro v0 HV
  go_cut [7, 8] from 21 to 25 (fun a0 a1 wx => ∃ (e7 e8 : Nat) (p : Option Addr) (n : Nat) (q : Nat → Option Addr × Nat × Nat), a0 = .pointer (some ⟨e7, 0, none⟩) ∧ a1 = .pointer (some ⟨e8, 0, none⟩) ∧ Hid (Gr w wx ∧ Cl wx w.heap.size a ∧ Cl wx (w.heap.size + 1) b ∧ Cv wx e7 k p (dl m) n q ∧ Cl wx e8 m ∧ Sl wx p m))
  case first =>
    have ⟨G, c0, c1⟩ := HV.out
    go_wp2_with (go_at_call 34; refine (HO'.out _).mono ?_; rintro e W1 ⟨p, n, q, rfl, S1, G1⟩)
    go_meet
    exact ⟨_, _, p, n, q, rfl, rfl, G.trans (G1.trans (by repeat (first | exact Gr.refl _ | apply Gr.drewN | apply Gr.drew | apply Gr.alloc | apply Gr.gro))), c0.gr (G1.trans (by repeat (first | exact Gr.refl _ | apply Gr.drewN | apply Gr.drew | apply Gr.alloc | apply Gr.gro))), c1.gr (G1.trans (by repeat (first | exact Gr.refl _ | apply Gr.drewN | apply Gr.drew | apply Gr.alloc | apply Gr.gro))), ⟨by simp [go_sem], by simp [go_sem], by simp [go_sem]⟩, ⟨by simp [go_sem], by simp [go_sem], by simp [go_sem]⟩, S1.gr (by repeat (first | exact Gr.refl _ | apply Gr.drewN | apply Gr.drew | apply Gr.alloc | apply Gr.gro))⟩
  clear HV
  obtain ⟨e7, e8, p, n, q, rfl, rfl, HV⟩ := hcut
  go_upto_region 4 with fail
  go_cut [9, 10] from 26 to 31 (fun a0 a1 wx => ∃ e9 e10 : Nat, a0 = .pointer (some ⟨e9, 0, none⟩) ∧ a1 = .pointer (some ⟨e10, 0, none⟩) ∧ Hid (Gr w wx ∧ Cl wx (w.heap.size) a ∧ Cl wx (w.heap.size + 1) b ∧ Cv wx e7 k p (dl m) n q ∧ Cl wx e8 m ∧ Cl wx e9 x ∧ Cl wx e10 y ∧ Sl wx p m))
  case first =>
    have ⟨G, c_w_heap_size, c__w_heap_size_1_, c_e7, c_e8, S_p⟩ := HV.out
    have ⟨hc_w_heap_size, fc_w_heap_size, pc_w_heap_size⟩ := c_w_heap_size
    have ⟨hc__w_heap_size_1_, fc__w_heap_size_1_, pc__w_heap_size_1_⟩ := c__w_heap_size_1_
    have ⟨hc_e7, fc_e7, pc_e7⟩ := c_e7
    have h0c_e7 := (c_e7).at0
    have h1c_e7 := (c_e7).at1
    have ⟨hc_e8, fc_e8, pc_e8⟩ := c_e8
    refine wp_region_mix (by kernel_rfl) (by kernel_rfl) (RG _ (fun i => match i with | 0 => some (.agg (cvA k p (dl m) n q)) | 1 => some (.agg (nw 9 a)) | 2 => some (.agg (nw 9 x)) | 3 => some (.agg (cvA k p (dl m) n q)) | 4 => some (.agg (nw 9 b)) | 5 => some (.agg (nw 9 y)) | _ => none) (fun i => match i with | 6 => some (nw 9 0) | 7 => some (nw 9 0) | _ => none) (fun i => match i with | 6 => some (8, nw 9 x) | 7 => some (9, nw 9 y) | _ => none)) (RG.start _ _ _ _ _ _) ?hs ?hf
    case hs =>
      intro listed vals a1 v1 i o hz hR hF ho hl hd
      have hks : ∀ (j k : Nat) (r : Array Value), (match j with | 6 => some (8, nw 9 x) | 7 => some (9, nw 9 y) | _ => (none : Option (Nat × Array Value))) = some (k, r) → (j = 6 ∧ k = 8) ∨ (j = 7 ∧ k = 9) := fun j k r h => by
        split at h <;> simp_all
      have Hc_w_heap_size : blk v1 (w.heap.size) = nw 9 a := (blk_of _ _ _ (hR.1.below.block (w.heap.size) (c_w_heap_size.p))).trans (c_w_heap_size.h)
      have Hc__w_heap_size_1_ : blk v1 ((w.heap.size + 1)) = nw 9 b := (blk_of _ _ _ (hR.1.below.block ((w.heap.size + 1)) (c__w_heap_size_1_.p))).trans (c__w_heap_size_1_.h)
      have Hc_e7 : blk v1 (e7) = cvA k p (dl m) n q := (blk_of _ _ _ (hR.1.below.block (e7) (c_e7.p))).trans (c_e7.h)
      have Hc_e8 : blk v1 (e8) = nw 9 m := (blk_of _ _ _ (hR.1.below.block (e8) (c_e8.p))).trans (c_e8.h)
      have hi : i < 10 := by simpa using (Array.getElem?_eq_some_iff.1 ho).1
      have hil : i < listed.size := by rw [hz]; simpa using hi
      obtain rfl | rfl | rfl | rfl | rfl | rfl | rfl | rfl | rfl | rfl : i = 0 ∨ i = 1 ∨ i = 2 ∨ i = 3 ∨ i = 4 ∨ i = 5 ∨ i = 6 ∨ i = 7 ∨ i = 8 ∨ i = 9 := by omega
      · obtain rfl := Option.some.inj ho
        have f0 := hF.old (s := 7) (v := .pointer (some ⟨e7, 0, none⟩)) (by kernel_rfl) rfl
        exact wp_val (.agg (cvA k p (dl m) n q)) (by simp [go_sem, f0, Hc_e7]) ⟨_, rfl, RG.quiet 0 _ hil rfl rfl (fun j k r h => by have := hks j k r h; omega) (Gr.refl _) hR⟩
      · obtain rfl := Option.some.inj ho
        have f0 := hF.old (s := 4) (v := .pointer (some ⟨w.heap.size, 0, none⟩)) (by kernel_rfl) rfl
        exact wp_val (.agg (nw 9 a)) (by simp [go_sem, f0, Hc_w_heap_size]) ⟨_, rfl, RG.quiet 1 _ hil rfl rfl (fun j k r h => by have := hks j k r h; omega) (Gr.refl _) hR⟩
      · obtain rfl := Option.some.inj ho
        have l0 := hd ⟨0, .data⟩ (by simp) rfl
        have f0 := hF.at (s := 26) (i := 0) (by kernel_rfl) (by simp) l0
        rw [hR.2.1 0 _ l0 rfl] at f0
        have l1 := hd ⟨1, .data⟩ (by simp) rfl
        have f1 := hF.at (s := 27) (i := 1) (by kernel_rfl) (by simp) l1
        rw [hR.2.1 1 _ l1 rfl] at f1
        exact wp_ret (.agg (nw 9 x)) (by simp [go_sem, f0, f1]) (B1.out p n q _ (S_p.gr hR.1)) (fun w2 hg => ⟨_, rfl, RG.quiet 2 _ hil rfl rfl (fun j k r h => by have := hks j k r h; omega) hg hR⟩)
      · obtain rfl := Option.some.inj ho
        have f0 := hF.old (s := 7) (v := .pointer (some ⟨e7, 0, none⟩)) (by kernel_rfl) rfl
        exact wp_val (.agg (cvA k p (dl m) n q)) (by simp [go_sem, f0, Hc_e7]) ⟨_, rfl, RG.quiet 3 _ hil rfl rfl (fun j k r h => by have := hks j k r h; omega) (Gr.refl _) hR⟩
      · obtain rfl := Option.some.inj ho
        have f0 := hF.old (s := 5) (v := .pointer (some ⟨(w.heap.size + 1), 0, none⟩)) (by kernel_rfl) rfl
        exact wp_val (.agg (nw 9 b)) (by simp [go_sem, f0, Hc__w_heap_size_1_]) ⟨_, rfl, RG.quiet 4 _ hil rfl rfl (fun j k r h => by have := hks j k r h; omega) (Gr.refl _) hR⟩
      · obtain rfl := Option.some.inj ho
        have l0 := hd ⟨3, .data⟩ (by simp) rfl
        have f0 := hF.at (s := 29) (i := 3) (by kernel_rfl) (by simp) l0
        rw [hR.2.1 3 _ l0 rfl] at f0
        have l1 := hd ⟨4, .data⟩ (by simp) rfl
        have f1 := hF.at (s := 30) (i := 4) (by kernel_rfl) (by simp) l1
        rw [hR.2.1 4 _ l1 rfl] at f1
        exact wp_ret (.agg (nw 9 y)) (by simp [go_sem, f0, f1]) (B2.out p n q _ (S_p.gr hR.1)) (fun w2 hg => ⟨_, rfl, RG.quiet 5 _ hil rfl rfl (fun j k r h => by have := hks j k r h; omega) hg hR⟩)
      · obtain rfl := Option.some.inj ho
        exact wp_val (.pointer (some ⟨v1.heap.size, 0, none⟩)) (w' := v1.alloc (.cells (nw 9 0) 25)) (by simp [go_sem]) ⟨_, rfl, RG.alloc 6 (nw 9 0) 25 hil hl rfl rfl (fun j k r h => by have := hks j k r h; omega) hR⟩
      · obtain rfl := Option.some.inj ho
        exact wp_val (.pointer (some ⟨v1.heap.size, 0, none⟩)) (w' := v1.alloc (.cells (nw 9 0) 25)) (by simp [go_sem]) ⟨_, rfl, RG.alloc 7 (nw 9 0) 25 hil hl rfl rfl (fun j k r h => by have := hks j k r h; omega) hR⟩
      · obtain rfl := Option.some.inj ho
        have l0 := hd ⟨6, .data⟩ (by simp) rfl
        have l1 := hd ⟨2, .data⟩ (by simp) rfl
        obtain ⟨B, h4, h5⟩ := hR.2.2.2
        obtain ⟨e1, e2, e3, e4, e5⟩ := h4 6 (nw 9 0) l0 rfl
        simp only [hl] at e5
        replace e5 : blk v1 (B 6) = nw 9 0 := e5
        have f0 := hF.at (s := 9) (i := 6) (by kernel_rfl) (by simp) l0
        rw [e1] at f0
        have f1 := hF.at (s := 28) (i := 2) (by kernel_rfl) (by simp) l1
        rw [hR.2.1 2 _ l1 rfl] at f1
        exact wp_skip (w' := setBlk v1 (B 6) (nw 9 x)) (by simp [go_sem, f0, f1, e4, e5]) ⟨undef, rfl, RG.store 8 6 (nw 9 0) (nw 9 x) (B 6) hil hl rfl rfl rfl l0 rfl (by rw [nw_size]; decide) e1 (fun k r h => by have := hks k _ r h; omega) hR⟩
      · obtain rfl := Option.some.inj ho
        have l0 := hd ⟨7, .data⟩ (by simp) rfl
        have l1 := hd ⟨5, .data⟩ (by simp) rfl
        obtain ⟨B, h4, h5⟩ := hR.2.2.2
        obtain ⟨e1, e2, e3, e4, e5⟩ := h4 7 (nw 9 0) l0 rfl
        simp only [hl] at e5
        replace e5 : blk v1 (B 7) = nw 9 0 := e5
        have f0 := hF.at (s := 10) (i := 7) (by kernel_rfl) (by simp) l0
        rw [e1] at f0
        have f1 := hF.at (s := 31) (i := 5) (by kernel_rfl) (by simp) l1
        rw [hR.2.1 5 _ l1 rfl] at f1
        exact wp_skip (w' := setBlk v1 (B 7) (nw 9 y)) (by simp [go_sem, f0, f1, e4, e5]) ⟨undef, rfl, RG.store 9 7 (nw 9 0) (nw 9 y) (B 7) hil hl rfl rfl rfl l0 rfl (by rw [nw_size]; decide) e1 (fun k r h => by have := hks k _ r h; omega) hR⟩
    case hf =>
      intro listed vals a1 v1 hall hR hF
      have Hc_w_heap_size : blk v1 (w.heap.size) = nw 9 a := (blk_of _ _ _ (hR.1.below.block (w.heap.size) (c_w_heap_size.p))).trans (c_w_heap_size.h)
      have pHc_w_heap_size : Pre (w.heap.size + 1) v1.heap.size := Nat.le_trans (show w.heap.size + 1 ≤ _ from c_w_heap_size.p) hR.1.below.size
      have Hc__w_heap_size_1_ : blk v1 ((w.heap.size + 1)) = nw 9 b := (blk_of _ _ _ (hR.1.below.block ((w.heap.size + 1)) (c__w_heap_size_1_.p))).trans (c__w_heap_size_1_.h)
      have pHc__w_heap_size_1_ : Pre ((w.heap.size + 1) + 1) v1.heap.size := Nat.le_trans (show (w.heap.size + 1) + 1 ≤ _ from c__w_heap_size_1_.p) hR.1.below.size
      have Hc_e7 : blk v1 (e7) = cvA k p (dl m) n q := (blk_of _ _ _ (hR.1.below.block (e7) (c_e7.p))).trans (c_e7.h)
      have pHc_e7 : Pre (e7 + 1) v1.heap.size := Nat.le_trans (show e7 + 1 ≤ _ from c_e7.p) hR.1.below.size
      have Hc_e8 : blk v1 (e8) = nw 9 m := (blk_of _ _ _ (hR.1.below.block (e8) (c_e8.p))).trans (c_e8.h)
      have pHc_e8 : Pre (e8 + 1) v1.heap.size := Nat.le_trans (show e8 + 1 ≤ _ from c_e8.p) hR.1.below.size
      have hV := hR.2.1
      obtain ⟨B, h4, h5⟩ := hR.2.2.2
      have x0 := hV 0 _ (hall 0 (by simp)) rfl
      have x1 := hV 1 _ (hall 1 (by simp)) rfl
      have x2 := hV 2 _ (hall 2 (by simp)) rfl
      have x3 := hV 3 _ (hall 3 (by simp)) rfl
      have x4 := hV 4 _ (hall 4 (by simp)) rfl
      have x5 := hV 5 _ (hall 5 (by simp)) rfl
      obtain ⟨x6, q6, p6, z6, y6⟩ := h4 6 _ (hall 6 (by simp)) rfl
      simp only [hall 8 (by simp), if_true] at y6
      replace p6 : Pre (B 6 + 1) v1.heap.size := p6
      replace y6 : blk v1 (B 6) = nw 9 x := y6
      obtain ⟨x7, q7, p7, z7, y7⟩ := h4 7 _ (hall 7 (by simp)) rfl
      simp only [hall 9 (by simp), if_true] at y7
      replace p7 : Pre (B 7 + 1) v1.heap.size := p7
      replace y7 : blk v1 (B 7) = nw 9 y := y7
      have hb1 := hR.1
      rw [hF.final (by kernel_rfl) hall]
      simp only [putFrom, Act.put, List.setIfInBounds_toArray, List.set_cons_zero, List.set_cons_succ, x0, x1, x2, x3, x4, x5, x6, x7]
      generalize B 6 = b6 at *
      generalize B 7 = b7 at *
      clear hV h4 h5 hR hF hall x0 x1 x2 x3 x4 x5 x6 x7
      go_wp2_with fail
      go_meet
      exact ⟨b6, b7, rfl, rfl, G.trans hb1, c_w_heap_size.gr hb1, c__w_heap_size_1_.gr hb1, c_e7.gr hb1, c_e8.gr hb1, ⟨y6, z6, p6⟩, ⟨y7, z7, p7⟩, S_p.gr hb1⟩
  clear HV
  obtain ⟨e9, e10, rfl, rfl, HV⟩ := hcut
  have ⟨G, c_w_heap_size, c__w_heap_size_1_, c_e7, c_e8, c_e9, c_e10, S_p⟩ := HV.out
  have ⟨hc_w_heap_size, fc_w_heap_size, pc_w_heap_size⟩ := c_w_heap_size
  have ⟨hc__w_heap_size_1_, fc__w_heap_size_1_, pc__w_heap_size_1_⟩ := c__w_heap_size_1_
  have ⟨hc_e7, fc_e7, pc_e7⟩ := c_e7
  have h0c_e7 := (c_e7).at0
  have h1c_e7 := (c_e7).at1
  have ⟨hc_e8, fc_e8, pc_e8⟩ := c_e8
  have ⟨hc_e9, fc_e9, pc_e9⟩ := c_e9
  have ⟨hc_e10, fc_e10, pc_e10⟩ := c_e10
  go_upto_region 7 with (first
      | (go_at_call 18; refine (num_any _ _).mono ?_; rintro e w' ⟨rfl, rfl⟩))
  go_cut [11, 12] from 40 to 47 (fun a0 a1 wx => ∃ e11 : Nat, a0 = .pointer (some ⟨e11, 0, none⟩) ∧ a1 = .int .i64 0 ∧ Hid (Gr w wx ∧ Cl wx (w.heap.size) a ∧ Cl wx (w.heap.size + 1) b ∧ Cv wx e7 k p (dl m) n q ∧ Cl wx e8 m ∧ Cl wx e9 x ∧ Cl wx e10 y ∧ Cl wx e11 t ∧ Sl wx p m))
  case first =>
    have ⟨G, c_w_heap_size, c__w_heap_size_1_, c_e7, c_e8, c_e9, c_e10, S_p⟩ := HV.out
    have ⟨hc_w_heap_size, fc_w_heap_size, pc_w_heap_size⟩ := c_w_heap_size
    have ⟨hc__w_heap_size_1_, fc__w_heap_size_1_, pc__w_heap_size_1_⟩ := c__w_heap_size_1_
    have ⟨hc_e7, fc_e7, pc_e7⟩ := c_e7
    have h0c_e7 := (c_e7).at0
    have h1c_e7 := (c_e7).at1
    have ⟨hc_e8, fc_e8, pc_e8⟩ := c_e8
    have ⟨hc_e9, fc_e9, pc_e9⟩ := c_e9
    have ⟨hc_e10, fc_e10, pc_e10⟩ := c_e10
    go_wp2_with (first
        | (go_at_call_of 16 ((#[.int .i64 k, .agg (nw 9 x), .agg (nw 9 y)] : Array Value)); refine (M1.out _).mono ?_; rintro e w' ⟨rfl, g1, rfl⟩)
        | (go_at_call 18; refine (num_any _ _).mono ?_; rintro e w' ⟨rfl, rfl⟩))
    go_meet
    exact ⟨_, rfl, rfl, G.trans (by repeat (first | exact Gr.refl _ | apply Gr.drewN | apply Gr.drew | apply Gr.alloc | apply Gr.gro)), c_w_heap_size.gr (by repeat (first | exact Gr.refl _ | apply Gr.drewN | apply Gr.drew | apply Gr.alloc | apply Gr.gro)), c__w_heap_size_1_.gr (by repeat (first | exact Gr.refl _ | apply Gr.drewN | apply Gr.drew | apply Gr.alloc | apply Gr.gro)), c_e7.gr (by repeat (first | exact Gr.refl _ | apply Gr.drewN | apply Gr.drew | apply Gr.alloc | apply Gr.gro)), c_e8.gr (by repeat (first | exact Gr.refl _ | apply Gr.drewN | apply Gr.drew | apply Gr.alloc | apply Gr.gro)), c_e9.gr (by repeat (first | exact Gr.refl _ | apply Gr.drewN | apply Gr.drew | apply Gr.alloc | apply Gr.gro)), c_e10.gr (by repeat (first | exact Gr.refl _ | apply Gr.drewN | apply Gr.drew | apply Gr.alloc | apply Gr.gro)), ⟨by simp [go_sem], by simp [go_sem], by simp [go_sem]⟩, S_p.gr (by repeat (first | exact Gr.refl _ | apply Gr.drewN | apply Gr.drew | apply Gr.alloc | apply Gr.gro))⟩
  clear HV
  obtain ⟨e11, rfl, rfl, HV⟩ := hcut
  go_upto_region 8 with fail
  go_cut [13, 14] from 48 to 54 (fun a0 a1 wx => ∃ e13 : Nat, a0 = .pointer (some ⟨e13, 0, none⟩) ∧ a1 = .int .i64 503 ∧ Hid (Gr w wx ∧ Cl wx (w.heap.size) a ∧ Cl wx (w.heap.size + 1) b ∧ Cv wx e7 k p (dl m) n q ∧ Cl wx e8 m ∧ Cl wx e9 x ∧ Cl wx e10 y ∧ Cl wx e11 t ∧ Cl wx e13 f ∧ Sl wx p m))
  case first =>
    have ⟨G, c_w_heap_size, c__w_heap_size_1_, c_e7, c_e8, c_e9, c_e10, c_e11, S_p⟩ := HV.out
    have ⟨hc_w_heap_size, fc_w_heap_size, pc_w_heap_size⟩ := c_w_heap_size
    have ⟨hc__w_heap_size_1_, fc__w_heap_size_1_, pc__w_heap_size_1_⟩ := c__w_heap_size_1_
    have ⟨hc_e7, fc_e7, pc_e7⟩ := c_e7
    have h0c_e7 := (c_e7).at0
    have h1c_e7 := (c_e7).at1
    have ⟨hc_e8, fc_e8, pc_e8⟩ := c_e8
    have ⟨hc_e9, fc_e9, pc_e9⟩ := c_e9
    have ⟨hc_e10, fc_e10, pc_e10⟩ := c_e10
    have ⟨hc_e11, fc_e11, pc_e11⟩ := c_e11
    go_wp2_with (first
        | (go_at_call_of 29 ((#[.int .i64 k, .agg (nw 9 x)] : Array Value)); refine (S1.out _).mono ?_; rintro e w' ⟨rfl, g2, rfl⟩)
        | (go_at_call 18; refine (num_any _ _).mono ?_; rintro e w' ⟨rfl, rfl⟩))
    go_meet
    exact ⟨_, rfl, rfl, G.trans (by repeat (first | exact Gr.refl _ | apply Gr.drewN | apply Gr.drew | apply Gr.alloc | apply Gr.gro)), c_w_heap_size.gr (by repeat (first | exact Gr.refl _ | apply Gr.drewN | apply Gr.drew | apply Gr.alloc | apply Gr.gro)), c__w_heap_size_1_.gr (by repeat (first | exact Gr.refl _ | apply Gr.drewN | apply Gr.drew | apply Gr.alloc | apply Gr.gro)), c_e7.gr (by repeat (first | exact Gr.refl _ | apply Gr.drewN | apply Gr.drew | apply Gr.alloc | apply Gr.gro)), c_e8.gr (by repeat (first | exact Gr.refl _ | apply Gr.drewN | apply Gr.drew | apply Gr.alloc | apply Gr.gro)), c_e9.gr (by repeat (first | exact Gr.refl _ | apply Gr.drewN | apply Gr.drew | apply Gr.alloc | apply Gr.gro)), c_e10.gr (by repeat (first | exact Gr.refl _ | apply Gr.drewN | apply Gr.drew | apply Gr.alloc | apply Gr.gro)), c_e11.gr (by repeat (first | exact Gr.refl _ | apply Gr.drewN | apply Gr.drew | apply Gr.alloc | apply Gr.gro)), ⟨by simp [go_sem], by simp [go_sem], by simp [go_sem]⟩, S_p.gr (by repeat (first | exact Gr.refl _ | apply Gr.drewN | apply Gr.drew | apply Gr.alloc | apply Gr.gro))⟩
  clear HV
  obtain ⟨e13, rfl, rfl, HV⟩ := hcut
  go_upto_region 9 with fail
  go_cut [15, 16] from 55 to 61 (fun a0 a1 wx => ∃ e15 : Nat, a0 = .pointer (some ⟨e15, 0, none⟩) ∧ a1 = .int .i64 503 ∧ Hid (Gr w wx ∧ Cl wx (w.heap.size) a ∧ Cl wx (w.heap.size + 1) b ∧ Cv wx e7 k p (dl m) n q ∧ Cl wx e8 m ∧ Cl wx e9 x ∧ Cl wx e10 y ∧ Cl wx e11 t ∧ Cl wx e13 f ∧ Cl wx e15 g ∧ Sl wx p m))
  case first =>
    have ⟨G, c_w_heap_size, c__w_heap_size_1_, c_e7, c_e8, c_e9, c_e10, c_e11, c_e13, S_p⟩ := HV.out
    have ⟨hc_w_heap_size, fc_w_heap_size, pc_w_heap_size⟩ := c_w_heap_size
    have ⟨hc__w_heap_size_1_, fc__w_heap_size_1_, pc__w_heap_size_1_⟩ := c__w_heap_size_1_
    have ⟨hc_e7, fc_e7, pc_e7⟩ := c_e7
    have h0c_e7 := (c_e7).at0
    have h1c_e7 := (c_e7).at1
    have ⟨hc_e8, fc_e8, pc_e8⟩ := c_e8
    have ⟨hc_e9, fc_e9, pc_e9⟩ := c_e9
    have ⟨hc_e10, fc_e10, pc_e10⟩ := c_e10
    have ⟨hc_e11, fc_e11, pc_e11⟩ := c_e11
    have ⟨hc_e13, fc_e13, pc_e13⟩ := c_e13
    go_wp2_with (first
        | (go_at_call_of 29 ((#[.int .i64 k, .agg (nw 9 y)] : Array Value)); refine (S2.out _).mono ?_; rintro e w' ⟨rfl, g3, rfl⟩)
        | (go_at_call 18; refine (num_any _ _).mono ?_; rintro e w' ⟨rfl, rfl⟩))
    go_meet
    exact ⟨_, rfl, rfl, G.trans (by repeat (first | exact Gr.refl _ | apply Gr.drewN | apply Gr.drew | apply Gr.alloc | apply Gr.gro)), c_w_heap_size.gr (by repeat (first | exact Gr.refl _ | apply Gr.drewN | apply Gr.drew | apply Gr.alloc | apply Gr.gro)), c__w_heap_size_1_.gr (by repeat (first | exact Gr.refl _ | apply Gr.drewN | apply Gr.drew | apply Gr.alloc | apply Gr.gro)), c_e7.gr (by repeat (first | exact Gr.refl _ | apply Gr.drewN | apply Gr.drew | apply Gr.alloc | apply Gr.gro)), c_e8.gr (by repeat (first | exact Gr.refl _ | apply Gr.drewN | apply Gr.drew | apply Gr.alloc | apply Gr.gro)), c_e9.gr (by repeat (first | exact Gr.refl _ | apply Gr.drewN | apply Gr.drew | apply Gr.alloc | apply Gr.gro)), c_e10.gr (by repeat (first | exact Gr.refl _ | apply Gr.drewN | apply Gr.drew | apply Gr.alloc | apply Gr.gro)), c_e11.gr (by repeat (first | exact Gr.refl _ | apply Gr.drewN | apply Gr.drew | apply Gr.alloc | apply Gr.gro)), c_e13.gr (by repeat (first | exact Gr.refl _ | apply Gr.drewN | apply Gr.drew | apply Gr.alloc | apply Gr.gro)), ⟨by simp [go_sem], by simp [go_sem], by simp [go_sem]⟩, S_p.gr (by repeat (first | exact Gr.refl _ | apply Gr.drewN | apply Gr.drew | apply Gr.alloc | apply Gr.gro))⟩
  clear HV
  obtain ⟨e15, rfl, rfl, HV⟩ := hcut
  go_upto_region 10 with fail
  go_cut [17, 18] from 62 to 68 (fun a0 a1 wx => ∃ e17 : Nat, a0 = .pointer (some ⟨e17, 0, none⟩) ∧ a1 = .int .i64 0 ∧ Hid (Gr w wx ∧ Cl wx (w.heap.size) a ∧ Cl wx (w.heap.size + 1) b ∧ Cv wx e7 k p (dl m) n q ∧ Cl wx e8 m ∧ Cl wx e9 x ∧ Cl wx e10 y ∧ Cl wx e11 t ∧ Cl wx e13 f ∧ Cl wx e15 g ∧ Cl wx e17 r ∧ Sl wx p m))
  case first =>
    have ⟨G, c_w_heap_size, c__w_heap_size_1_, c_e7, c_e8, c_e9, c_e10, c_e11, c_e13, c_e15, S_p⟩ := HV.out
    have ⟨hc_w_heap_size, fc_w_heap_size, pc_w_heap_size⟩ := c_w_heap_size
    have ⟨hc__w_heap_size_1_, fc__w_heap_size_1_, pc__w_heap_size_1_⟩ := c__w_heap_size_1_
    have ⟨hc_e7, fc_e7, pc_e7⟩ := c_e7
    have h0c_e7 := (c_e7).at0
    have h1c_e7 := (c_e7).at1
    have ⟨hc_e8, fc_e8, pc_e8⟩ := c_e8
    have ⟨hc_e9, fc_e9, pc_e9⟩ := c_e9
    have ⟨hc_e10, fc_e10, pc_e10⟩ := c_e10
    have ⟨hc_e11, fc_e11, pc_e11⟩ := c_e11
    have ⟨hc_e13, fc_e13, pc_e13⟩ := c_e13
    have ⟨hc_e15, fc_e15, pc_e15⟩ := c_e15
    go_wp2_with (first
        | (go_at_call_of 29 ((#[.int .i64 k, .agg (nw 9 t)] : Array Value)); refine (S3.out _).mono ?_; rintro e w' ⟨rfl, g4, rfl⟩)
        | (go_at_call 18; refine (num_any _ _).mono ?_; rintro e w' ⟨rfl, rfl⟩))
    go_meet
    exact ⟨_, rfl, rfl, G.trans (by repeat (first | exact Gr.refl _ | apply Gr.drewN | apply Gr.drew | apply Gr.alloc | apply Gr.gro)), c_w_heap_size.gr (by repeat (first | exact Gr.refl _ | apply Gr.drewN | apply Gr.drew | apply Gr.alloc | apply Gr.gro)), c__w_heap_size_1_.gr (by repeat (first | exact Gr.refl _ | apply Gr.drewN | apply Gr.drew | apply Gr.alloc | apply Gr.gro)), c_e7.gr (by repeat (first | exact Gr.refl _ | apply Gr.drewN | apply Gr.drew | apply Gr.alloc | apply Gr.gro)), c_e8.gr (by repeat (first | exact Gr.refl _ | apply Gr.drewN | apply Gr.drew | apply Gr.alloc | apply Gr.gro)), c_e9.gr (by repeat (first | exact Gr.refl _ | apply Gr.drewN | apply Gr.drew | apply Gr.alloc | apply Gr.gro)), c_e10.gr (by repeat (first | exact Gr.refl _ | apply Gr.drewN | apply Gr.drew | apply Gr.alloc | apply Gr.gro)), c_e11.gr (by repeat (first | exact Gr.refl _ | apply Gr.drewN | apply Gr.drew | apply Gr.alloc | apply Gr.gro)), c_e13.gr (by repeat (first | exact Gr.refl _ | apply Gr.drewN | apply Gr.drew | apply Gr.alloc | apply Gr.gro)), c_e15.gr (by repeat (first | exact Gr.refl _ | apply Gr.drewN | apply Gr.drew | apply Gr.alloc | apply Gr.gro)), ⟨by simp [go_sem], by simp [go_sem], by simp [go_sem]⟩, S_p.gr (by repeat (first | exact Gr.refl _ | apply Gr.drewN | apply Gr.drew | apply Gr.alloc | apply Gr.gro))⟩
  clear HV
  obtain ⟨e17, rfl, rfl, HV⟩ := hcut
  go_upto_region 11 with fail
  have ⟨G, c_w_heap_size, c__w_heap_size_1_, c_e7, c_e8, c_e9, c_e10, c_e11, c_e13, c_e15, c_e17, S_p⟩ := HV.out
  have ⟨hc_w_heap_size, fc_w_heap_size, pc_w_heap_size⟩ := c_w_heap_size
  have ⟨hc__w_heap_size_1_, fc__w_heap_size_1_, pc__w_heap_size_1_⟩ := c__w_heap_size_1_
  have ⟨hc_e7, fc_e7, pc_e7⟩ := c_e7
  have h0c_e7 := (c_e7).at0
  have h1c_e7 := (c_e7).at1
  have ⟨hc_e8, fc_e8, pc_e8⟩ := c_e8
  have ⟨hc_e9, fc_e9, pc_e9⟩ := c_e9
  have ⟨hc_e10, fc_e10, pc_e10⟩ := c_e10
  have ⟨hc_e11, fc_e11, pc_e11⟩ := c_e11
  have ⟨hc_e13, fc_e13, pc_e13⟩ := c_e13
  have ⟨hc_e15, fc_e15, pc_e15⟩ := c_e15
  have ⟨hc_e17, fc_e17, pc_e17⟩ := c_e17
  clear HV
  go_wp2_with (first
      | (go_at_call_of 32 ((#[.agg (cvA k p (dl m) n q), .agg (nw 9 a)] : Array Value)); refine (B1.out p n q _ (S_p.gr (by repeat (first | exact Gr.refl _ | apply Gr.drewN | apply Gr.drew | apply Gr.alloc | apply Gr.gro)))).mono ?_; rintro e w' ⟨rfl, g5, rfl⟩)
      | (go_at_call_of 32 ((#[.agg (cvA k p (dl m) n q), .agg (nw 9 b)] : Array Value)); refine (B2.out p n q _ (S_p.gr (by repeat (first | exact Gr.refl _ | apply Gr.drewN | apply Gr.drew | apply Gr.alloc | apply Gr.gro)))).mono ?_; rintro e w' ⟨rfl, g6, rfl⟩)
      | (go_at_call_of 16 ((#[.int .i64 k, .agg (nw 9 x), .agg (nw 9 y)] : Array Value)); refine (M1.out _).mono ?_; rintro e w' ⟨rfl, g7, rfl⟩)
      | (go_at_call_of 29 ((#[.int .i64 k, .agg (nw 9 x)] : Array Value)); refine (S1.out _).mono ?_; rintro e w' ⟨rfl, g8, rfl⟩)
      | (go_at_call_of 29 ((#[.int .i64 k, .agg (nw 9 y)] : Array Value)); refine (S2.out _).mono ?_; rintro e w' ⟨rfl, g9, rfl⟩)
      | (go_at_call_of 29 ((#[.int .i64 k, .agg (nw 9 t)] : Array Value)); refine (S3.out _).mono ?_; rintro e w' ⟨rfl, g10, rfl⟩)
      | (go_at_call 18; refine (num_any _ _).mono ?_; rintro e w' ⟨rfl, rfl⟩))
  go_ret
  refine ⟨rfl, ?_⟩
  repeat (first | exact G | apply Gr.drewN | apply Gr.drew | apply Gr.alloc | apply Gr.gro)
theorem fproducts_any (id : Int) (a b : Nat) (ha : a < M) (hb : b < M) (w : World) :
    Calls Try.prog 8 #[.int .i64 id, .agg (nw 9 a), .agg (nw 9 b)] w fun e w' => e = .returned (.bool true) ∧ Gr w w' := by
  obtain ⟨h1, h2⟩ := idx_bd id
  have HO := fun w => one5_any id w
  obtain ⟨k, hk⟩ : ∃ k, idx id = k := ⟨_, rfl⟩
  rw [hk] at h1 h2 HO
  by_cases hx : a % pN k = 0
  · exact fprod_x0 id k a b h1 h2 ha hb hx HO w
  · by_cases hy : b % pN k = 0
    · exact fprod_y0 id k a b h1 h2 ha hb ⟨hx, hy⟩ HO w
    · have hB := pN_bd k h1 h2
      have hp := prm_pN k h1 h2
      have hxm : a % pN k < pN k := Nat.mod_lt _ (by omega)
      have hym : b % pN k < pN k := Nat.mod_lt _ (by omega)
      have htm : a % pN k * (b % pN k) % pN k < pN k := Nat.mod_lt _ (by omega)
      have ht0 : a % pN k * (b % pN k) % pN k ≠ 0 := fun h => by
        rcases hp.dvd_mul (Nat.dvd_of_mod_eq_zero h) with d | d
        · exact not_dvd hx hxm d
        · exact not_dvd hy hym d
      have ht : (a % pN k * (b % pN k) % pN k) ^ ((pN k - 1) / 2) % pN k = (a % pN k) ^ ((pN k - 1) / 2) % pN k * ((b % pN k) ^ ((pN k - 1) / 2) % pN k) % pN k := by
        rw [← Nat.pow_mod, Nat.mul_pow, Nat.mul_mod]
      have yes : ∀ c, c ≠ 0 → c < pN k → c ^ ((pN k - 1) / 2) % pN k = 1 → sqE k c = 0 := fun c c0 cm h => (sq_spec k c h1 h2 ((sq_iff k c h1 h2 c0 cm).2 h)).1
      have no : ∀ c, c ≠ 0 → c < pN k → c ^ ((pN k - 1) / 2) % pN k = pN k - 1 → sqE k c = 503 := fun c c0 cm h => (sq_none k c fun e => by
        have := (sq_iff k c h1 h2 c0 cm).1 e
        omega).1
      rcases euler hp hB.2.2 hx hxm with ex | ex <;> rcases euler hp hB.2.2 hy hym with ey | ey <;> rw [ex, ey] at ht
      · exact fprod_0 id k a b h1 h2 ha hb ⟨hx, hy⟩ (yes _ hx hxm ex) (yes _ hy hym ey) (yes _ ht0 htm (by rw [ht, Nat.mul_one, Nat.mod_eq_of_lt (by omega)])) HO w
      · exact fprod_1 id k a b h1 h2 ha hb ⟨hx, hy⟩ (yes _ hx hxm ex) (no _ hy hym ey) (no _ ht0 htm (by rw [ht, Nat.one_mul, Nat.mod_eq_of_lt (by omega)])) HO w
      · exact fprod_2 id k a b h1 h2 ha hb ⟨hx, hy⟩ (no _ hx hxm ex) (yes _ hy hym ey) (no _ ht0 htm (by rw [ht, Nat.mul_one, Nat.mod_eq_of_lt (by omega)])) HO w
      · exact fprod_3 id k a b h1 h2 ha hb ⟨hx, hy⟩ (no _ hx hxm ex) (no _ hy hym ey) (yes _ ht0 htm (by rw [ht]; exact neg_neg _ (by omega))) HO w

end Go.Proofs.Ytkmpholjlophpaa
